"""Whether reflections lead from one ring to another, and such reflections."""

from markring.checks import check_ring
from markring.errors import NotReachable
from markring.orders import arranging_places
from markring.rings import step_modulus, steps_between
from markring.windings import find_windings, winding_places


def find_difference(first, second):
    """Return the first invariant in which the rings differ, or None."""
    check_ring(first)
    check_ring(second)
    return difference_between(first, second)


def find_moves(first, second):
    """Return the seats of reflections that lead from one ring to the other."""
    check_reachable(first, second)
    goal = steps_between(second)
    # A place of a step is a seat here. Arranging leaves seat 0 out.
    seats = arranging_places(steps_between(first), goal)
    change = second[0] - first[0]
    if change != 0:
        seats.extend(winding_places(find_windings(goal, change)))
    return seats


def check_reachable(first, second):
    """Raise NotReachable if no reflections lead from one ring to the other."""
    if find_difference(first, second) is not None:
        raise NotReachable("no reflections lead to the second ring")


def difference_between(first, second):
    """Return the difference of rings whose marks may lie beyond the limits."""
    if len(first) != len(second):
        return ("seats", len(first), len(second))
    difference = find_step_difference(steps_between(first), steps_between(second))
    if difference is not None:
        return difference
    return find_mark_difference(first, second)


def find_step_difference(first, second):
    """Return the difference of the smallest step that is not equally frequent."""
    for step in sorted(set(first + second)):
        if first.count(step) != second.count(step):
            return ("step", step, first.count(step), second.count(step))
    return None


def find_mark_difference(first, second):
    """Return the difference of the first marks of two rings with the same steps."""
    start, end = first[0], second[0]
    modulus = step_modulus(steps_between(first))
    if modulus != 0:
        start, end = start % modulus, end % modulus
    if start != end:
        return ("mark", start, end)
    return None
