"""What the tests share: random rings, invalid values and independent answers.

Nothing here imports the functions under test. Where it can, an answer is
computed in another way than in the package: a reflection of a seat exchanges
the steps before and after it.
"""

import collections
import itertools
import random
import unittest

LARGEST_MARK = 1000000
LARGEST_STEP = 2000000

# What no seat, mark or step can be.
NO_INTEGERS = [True, False, None, "", "0", "1", "seat", (), (0,), (0, 1, 3), [], [0], [1, 2]]

# What is not a seat of any ring.
NO_SEATS = NO_INTEGERS + [-1, -2, 8, 9, 10 ** 30, -10 ** 30]

# What is not a tuple at all.
NO_TUPLES = [0, 1, -5, True, False, None, "", "013", "pins", [], [0], [0, 1, 3], [0, 1, 2, 3]]

# What is not a list at all.
NO_LISTS = [0, 1, -5, True, False, None, "", "012", "seat", (), (0,), (0, 1, 2)]


class MarkringTest(unittest.TestCase):
    """A test case that compares values exactly and errors by all they promise."""

    def assert_same(self, result, expected):
        """Compare the kinds of the values, too: True is not 1, a list is not a tuple."""
        self.assertEqual(repr(result), repr(expected))

    def assert_raises(self, error, attributes, function, *values, **pins):
        """Check that exactly this error with exactly these attributes is raised."""
        with self.assertRaises(ValueError) as caught:
            function(*values, **pins)
        raised = caught.exception
        self.assertIs(type(raised), error, (values, pins))
        self.assert_same(vars(raised), attributes)


def random_ring(source, largest=None):
    """Return a ring, often with small marks so that steps occur repeatedly."""
    if largest is None:
        largest = source.choice([0, 1, 2, 5, 40, 1000, LARGEST_MARK])
    length = source.randint(3, 8)
    return tuple(source.randint(-largest, largest) for _ in range(length))


def random_rings(seed, number):
    source = random.Random(seed)
    return [random_ring(source) for _ in range(number)]


def random_pins(source, length):
    return tuple(seat for seat in range(length) if source.random() < 0.4)


def random_some_pins(source, length, most=None):
    """Return at least one pinned seat."""
    number = source.randint(1, length if most is None else most)
    return tuple(sorted(source.sample(range(length), number)))


def random_seats(source, length, number, pins=()):
    """Return up to a number of seats that are not pinned."""
    free = [seat for seat in range(length) if seat not in pins]
    return [source.choice(free) for _ in range(source.randint(0, number) if free else 0)]


def whole(value):
    return type(value) is int


def steps_of(marks):
    ends = list(marks[1:]) + [marks[0]]
    return tuple(end - start for start, end in zip(marks, ends))


def divisor_of(first, second):
    first, second = abs(first), abs(second)
    while second:
        first, second = second, first % second
    return first


def modulus_of(marks):
    found = 0
    for one, other in itertools.combinations(steps_of(marks), 2):
        found = divisor_of(found, one - other)
    return found


def marks_from(first, steps):
    return tuple(first + sum(steps[:seat]) for seat in range(len(steps)))


def reflected(marks, seats):
    """Reflect seats by exchanging the two steps beside each of them."""
    first, steps = marks[0], list(steps_of(marks))
    for seat in seats:
        if seat == 0:
            # Seat 0 is reached from the last seat, now by the step after seat 0.
            first += steps[0] - steps[-1]
        steps[seat - 1], steps[seat] = steps[seat], steps[seat - 1]
    return marks_from(first, steps)


def neighbors_of(marks, pins=()):
    """Return the rings after each reflection of a seat that is not pinned."""
    length = len(marks)
    found = []
    for seat in range(length):
        if seat not in pins:
            mark = marks[(seat + length - 1) % length] + marks[(seat + 1) % length] - marks[seat]
            found.append(marks[:seat] + (mark,) + marks[seat + 1:])
    return found


def distances_from(marks, farthest=None, pins=()):
    """Return the number of reflections to each ring that is not farther away."""
    distances = {marks: 0}
    waiting = collections.deque([marks])
    while waiting:
        ring = waiting.popleft()
        if distances[ring] == farthest:
            break
        for neighbor in neighbors_of(ring, pins):
            if neighbor not in distances:
                distances[neighbor] = distances[ring] + 1
                waiting.append(neighbor)
    return distances


def difference_of(first, second):
    """Return the first invariant of point 5 in which two rings differ."""
    if len(first) != len(second):
        return "seats", len(first), len(second)
    counts = collections.Counter(steps_of(first))
    others = collections.Counter(steps_of(second))
    unequal = [step for step in counts.keys() | others.keys() if counts[step] != others[step]]
    if unequal:
        step = min(unequal)
        return "step", step, counts[step], others[step]
    modulus = modulus_of(first)
    marks = first[0], second[0]
    if modulus > 0:
        marks = tuple(mark - modulus * (mark // modulus) for mark in marks)
    return None if marks[0] == marks[1] else ("mark", *marks)


def arcs_of(marks, pins):
    """Return the arcs, each by walking from a pinned seat to the next one."""
    arcs = []
    for pin in pins:
        arc, seat = [], pin
        while not arc or seat not in pins:
            following = 0 if seat == len(marks) - 1 else seat + 1
            arc.append(marks[following] - marks[seat])
            seat = following
        arcs.append(arc)
    return arcs


def pinned_difference_of(first, second, pins):
    """Return the first invariant of point 8 in which two rings differ."""
    if len(first) != len(second):
        return "seats", len(first), len(second)
    for pin in pins:
        if first[pin] != second[pin]:
            return "pin", pin, first[pin], second[pin]
    for pin, arc, other in zip(pins, arcs_of(first, pins), arcs_of(second, pins)):
        if collections.Counter(arc) != collections.Counter(other):
            return "arc", pin, sorted(arc), sorted(other)
    return None


def ring_with_arcs(marks, pins, arcs):
    """Return the ring with the pinned marks of a ring and these arcs."""
    steps = [step for arc in arcs for step in arc]
    turned = marks_from(marks[pins[0]], steps)
    return turned[len(marks) - pins[0]:] + turned[:len(marks) - pins[0]]


def pinned_rings_of(marks, pins):
    """Return all reachable rings in their order, from all orders of all arcs."""
    orders = [sorted(set(itertools.permutations(arc))) for arc in arcs_of(marks, pins)]
    return [ring_with_arcs(marks, pins, arcs) for arcs in itertools.product(*orders)]


def ring_error(marks):
    """Return the position of InvalidMarks, or None for a ring."""
    return values_error(marks, LARGEST_MARK)


def values_error(values, largest):
    if type(values) is not tuple:
        return 0
    for position in range(8):
        if position == len(values):
            break
        value = values[position]
        if not whole(value) or abs(value) > largest:
            return position
    if len(values) > 8:
        return 8
    if len(values) < 3:
        return len(values)
    return None


def steps_error(steps):
    """Return the position of InvalidSteps, or None for the steps of a ring."""
    position = values_error(steps, LARGEST_STEP)
    if position is None and sum(steps) != 0:
        return len(steps)
    return position


def pins_valid(pins, length):
    if type(pins) is not tuple or not all(whole(pin) for pin in pins):
        return False
    chosen = [seat for seat in range(length) if seat in pins]
    return list(pins) == chosen


def some_pins_valid(pins, length):
    """Tell whether these are pinned seats for the functions that need some."""
    return pins_valid(pins, length) and len(pins) > 0


def invalid_pins(length):
    """Return what is not a tuple of one or more pinned seats."""
    cases = NO_TUPLES + [(), (0, 0), (1, 0), (2, 2), (0, 2, 1), (0, 1, 1), (0, 1, 2, 2)]
    cases += [(length,), (0, length), (-1,), (-1, 0), (length - 1, length), ((0,),), ([0],)]
    for bad in NO_SEATS:
        cases += [(bad,), (0, bad), (bad, length - 1), (0, bad, length - 1)]
    return [pins for pins in cases if not some_pins_valid(pins, length)]


def move_error(seats, length, pins):
    """Return (position, reason) of InvalidMove, or None for seats to reflect."""
    if type(seats) is not list:
        return 0, "seat"
    for position, seat in enumerate(seats):
        if not whole(seat) or seat not in range(length):
            return position, "seat"
        if seat in pins:
            return position, "pinned"
    return None


def invalid_rings():
    """Return pairs of what is not a ring and the position of InvalidMarks."""
    cases = [(value, 0) for value in NO_TUPLES]
    bad_marks = NO_INTEGERS + [LARGEST_MARK + 1, -LARGEST_MARK - 1, 10 ** 30]
    # Lengths that are too small or too large are here for the first of two faults.
    for length in range(1, 12):
        for position in range(min(length, 8)):
            for bad in bad_marks:
                marks = [(3 * seat) % 7 for seat in range(length)]
                marks[position] = bad
                cases.append((tuple(marks), position))
                cases.append((tuple(marks[:position]) + (bad,) * (length - position), position))
    cases += [((), 0), ((0,), 1), ((5, -5), 2), ((0, 0), 2)]
    for length in (9, 10, 11, 30):
        cases.append(((0,) * length, 8))
        cases.append((tuple(range(length)), 8))
        cases.append(((0,) * 8 + ("x",) * (length - 8), 8))
    cases.append(((0,) * 9 + (None,), 8))
    return cases
