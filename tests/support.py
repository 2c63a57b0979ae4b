"""What the tests share: random rings, invalid values and independent answers.

Nothing here imports the functions under test. Where it can, an answer is
computed in another way than in the package: a reflection of a seat exchanges
the steps before and after it.
"""

import itertools
import random
import unittest

LARGEST_MARK = 1000000
LARGEST_STEP = 2000000

# What no seat, mark or step can be.
NO_INTEGERS = [True, False, None, "", "0", "1", "seat", (), (0,), (0, 1, 3), [], [0], [1, 2]]

# What is not a tuple at all.
NO_TUPLES = [0, 1, -5, True, False, None, "", "013", "pins", [], [0], [0, 1, 3], [0, 1, 2, 3]]

# What is not a list at all.
NO_LISTS = [0, 1, -5, True, False, None, "", "012", "seat", (), (0,), (0, 1, 2)]


class MarkringTest(unittest.TestCase):
    """A test case that compares values exactly and errors by all they promise."""

    def assert_same(self, result, expected):
        """Compare the kinds of the values, too: True is not 1, a list is not a tuple."""
        self.assertEqual(repr(result), repr(expected))

    def assert_raises(self, error, attributes, function, *values, **pins):
        """Check that exactly this error with exactly these attributes is raised."""
        with self.assertRaises(ValueError) as caught:
            function(*values, **pins)
        raised = caught.exception
        self.assertIs(type(raised), error, (values, pins))
        self.assert_same(vars(raised), attributes)


def random_ring(source, largest=None):
    """Return a ring, often with small marks so that steps occur repeatedly."""
    if largest is None:
        largest = source.choice([0, 1, 2, 5, 40, 1000, LARGEST_MARK])
    length = source.randint(3, 8)
    return tuple(source.randint(-largest, largest) for _ in range(length))


def random_rings(seed, number):
    source = random.Random(seed)
    return [random_ring(source) for _ in range(number)]


def random_pins(source, length):
    return tuple(seat for seat in range(length) if source.random() < 0.4)


def whole(value):
    return type(value) is int


def steps_of(marks):
    ends = list(marks[1:]) + [marks[0]]
    return tuple(end - start for start, end in zip(marks, ends))


def divisor_of(first, second):
    first, second = abs(first), abs(second)
    while second:
        first, second = second, first % second
    return first


def modulus_of(marks):
    found = 0
    for one, other in itertools.combinations(steps_of(marks), 2):
        found = divisor_of(found, one - other)
    return found


def marks_from(first, steps):
    return tuple(first + sum(steps[:seat]) for seat in range(len(steps)))


def reflected(marks, seats):
    """Reflect seats by exchanging the two steps beside each of them."""
    for seat in seats:
        length = len(marks)
        steps = list(steps_of(marks))
        steps[seat - 1], steps[seat] = steps[seat], steps[seat - 1]
        if seat == 0:
            # All other marks stay, so seat 0 is reached from the last seat.
            first = marks[length - 1] + steps[length - 1]
        else:
            first = marks[0]
        marks = marks_from(first, steps)
    return marks


def ring_error(marks):
    """Return the position of InvalidMarks, or None for a ring."""
    return values_error(marks, LARGEST_MARK)


def values_error(values, largest):
    if type(values) is not tuple:
        return 0
    for position in range(8):
        if position == len(values):
            break
        value = values[position]
        if not whole(value) or abs(value) > largest:
            return position
    if len(values) > 8:
        return 8
    if len(values) < 3:
        return len(values)
    return None


def steps_error(steps):
    """Return the position of InvalidSteps, or None for the steps of a ring."""
    position = values_error(steps, LARGEST_STEP)
    if position is None and sum(steps) != 0:
        return len(steps)
    return position


def pins_valid(pins, length):
    if type(pins) is not tuple or not all(whole(pin) for pin in pins):
        return False
    chosen = [seat for seat in range(length) if seat in pins]
    return list(pins) == chosen


def move_error(seats, length, pins):
    """Return (position, reason) of InvalidMove, or None for seats to reflect."""
    if type(seats) is not list:
        return 0, "seat"
    for position, seat in enumerate(seats):
        if not whole(seat) or seat not in range(length):
            return position, "seat"
        if seat in pins:
            return position, "pinned"
    return None


def invalid_rings():
    """Return pairs of what is not a ring and the position of InvalidMarks."""
    cases = [(value, 0) for value in NO_TUPLES]
    bad_marks = NO_INTEGERS + [LARGEST_MARK + 1, -LARGEST_MARK - 1, 10 ** 30]
    # Lengths that are too small or too large are here for the first of two faults.
    for length in range(1, 12):
        for position in range(min(length, 8)):
            for bad in bad_marks:
                marks = [(3 * seat) % 7 for seat in range(length)]
                marks[position] = bad
                cases.append((tuple(marks), position))
                cases.append((tuple(marks[:position]) + (bad,) * (length - position), position))
    cases += [((), 0), ((0,), 1), ((5, -5), 2), ((0, 0), 2)]
    for length in (9, 10, 11, 30):
        cases.append(((0,) * length, 8))
        cases.append((tuple(range(length)), 8))
        cases.append(((0,) * 8 + ("x",) * (length - 8), 8))
    cases.append(((0,) * 9 + (None,), 8))
    return cases
