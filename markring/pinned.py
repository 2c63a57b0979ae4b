"""Rings with pinned seats, between which the steps only change their order."""

from itertools import combinations

from markring.checks import check_ring, check_seat, check_some_pins, is_whole
from markring.errors import InvalidIndex, NotReachable
from markring.orders import arranging_places, count_orders, list_orders, order_at, rank_order
from markring.rings import steps_between


def find_arcs(marks, pins):
    """Return the list of the arcs of all pinned seats."""
    check_pinned_ring(marks, pins)
    return arcs_between(marks, pins)


def find_pinned_difference(first, second, pins):
    """Return the first invariant in which the rings differ, or None."""
    check_ring(first)
    check_ring(second)
    check_some_pins(pins, len(first))
    return pinned_difference_between(first, second, pins)


def pinned_moves(first, second, pins):
    """Return a shortest list of seats that leads from one ring to the other."""
    if find_pinned_difference(first, second, pins) is not None:
        raise NotReachable("no reflections of other seats lead to the second ring")
    seats = []
    for pin, arc, other in zip(pins, arcs_between(first, pins), arcs_between(second, pins)):
        for place in arranging_places(arc, other):
            seats.append((pin + place) % len(first))
    return seats


def count_pinned(marks, pins):
    """Return the number of reachable rings."""
    check_pinned_ring(marks, pins)
    return count_rings(marks, pins)


def rank_pinned(marks, pins):
    """Return the number of smaller reachable rings."""
    check_pinned_ring(marks, pins)
    rank = 0
    for arc in arcs_between(marks, pins):
        rank = rank * count_orders(arc) + rank_order(arc)
    return rank


def pinned_at(marks, pins, rank):
    """Return the reachable ring with this rank."""
    check_pinned_ring(marks, pins)
    if not is_whole(rank) or not 0 <= rank < count_rings(marks, pins):
        raise InvalidIndex("no reachable ring has this rank")
    arcs = []
    # The order of the last arc changes from each ring to the next one.
    for arc in reversed(arcs_between(marks, pins)):
        rank, arc_rank = divmod(rank, count_orders(arc))
        arcs.append(order_at(arc, arc_rank))
    return ring_along(marks, pins, arcs[::-1])


def possible_marks(marks, pins, seat):
    """Return the ascending list of the marks of a seat in reachable rings."""
    check_pinned_ring(marks, pins)
    check_seat(seat, len(marks))
    # Seats before the first pinned one are in the last arc, as the index -1 says.
    place = len([pin for pin in pins if pin <= seat]) - 1
    distance = (seat - pins[place]) % len(marks)
    arcs = arcs_between(marks, pins)
    return marks_after(marks[pins[place]], arcs[place], distance)


def check_pinned_ring(marks, pins):
    """Raise InvalidMarks or InvalidPins if these are not a ring and pinned seats."""
    check_ring(marks)
    check_some_pins(pins, len(marks))


def pinned_difference_between(first, second, pins):
    """Return the difference of rings whose marks may lie beyond the limits."""
    if len(first) != len(second):
        return ("seats", len(first), len(second))
    for pin in pins:
        if first[pin] != second[pin]:
            return ("pin", pin, first[pin], second[pin])
    for pin, arc, other in zip(pins, arcs_between(first, pins), arcs_between(second, pins)):
        if sorted(arc) != sorted(other):
            return ("arc", pin, sorted(arc), sorted(other))
    return None


def arcs_between(marks, pins):
    """Return the arcs of the pinned seats of a ring that has been checked."""
    # The arc of the last pinned seat may go on at seat 0.
    steps = steps_between(marks) * 2
    ends = pins[1:] + (pins[0] + len(marks),)
    return [list(steps[pin:end]) for pin, end in zip(pins, ends)]


def count_rings(marks, pins):
    """Return the number of rings that are reachable from a checked one."""
    number = 1
    for arc in arcs_between(marks, pins):
        number *= count_orders(arc)
    return number


def list_rings(marks, pins):
    """Return the list of all rings that are reachable from a checked one."""
    choices = [[]]
    for arc in arcs_between(marks, pins):
        orders = list_orders(arc)
        choices = [arcs + [order] for arcs in choices for order in orders]
    return [ring_along(marks, pins, arcs) for arcs in choices]


def ring_along(marks, pins, arcs):
    """Return the ring with the pinned marks of a ring and with these arcs."""
    changed = list(marks)
    for pin, arc in zip(pins, arcs):
        mark = marks[pin]
        for distance, step in enumerate(arc):
            changed[(pin + distance) % len(marks)] = mark
            mark += step
    return tuple(changed)


def marks_after(mark, arc, many):
    """Return the ascending list of the marks after so many steps of an arc."""
    # Each choice of steps may stand before all others of the arc.
    return sorted({mark + sum(steps) for steps in combinations(arc, many)})
