"""Point 2: what is a ring, for each function that takes one."""

import unittest

from support import LARGEST_MARK, NO_TUPLES, MarkringTest, invalid_rings, random_rings, ring_error

from markring.errors import InvalidMarks
from markring.moves import active_seats, apply_moves
from markring.rings import find_modulus, find_steps

# Other arguments of each function: valid ones, then ones that are wrong, too.
CALLS = [
    (find_steps, (), {}),
    (find_modulus, (), {}),
    (apply_moves, ([],), {}),
    (apply_moves, ([0, 1],), {"pins": (2,)}),
    (active_seats, (), {}),
    (active_seats, (), {"pins": (0, 1)}),
    (apply_moves, ([99],), {}),
    (apply_moves, ([0],), {"pins": (0,)}),
    (apply_moves, (None,), {"pins": None}),
    (apply_moves, ([True],), {"pins": (5, 5)}),
    (active_seats, (), {"pins": [0]}),
    (active_seats, (), {"pins": (-1, "x")}),
]


class MarksTest(MarkringTest):
    def assert_position(self, marks, position):
        for function, values, keywords in CALLS:
            expected = {"position": position}
            self.assert_raises(InvalidMarks, expected, function, marks, *values, **keywords)

    def test_the_reference_agrees_with_the_listed_cases(self):
        for marks, position in invalid_rings():
            self.assertEqual(ring_error(marks), position, marks)

    def test_invalid_rings(self):
        for marks, position in invalid_rings():
            self.assert_position(marks, position)

    def test_written_out(self):
        self.assert_position((0, 1), 2)
        self.assert_position((), 0)
        self.assert_position((4,), 1)
        self.assert_position((True, 1), 0)
        self.assert_position((0, False), 1)
        self.assert_position((0, True, 3), 1)
        self.assert_position((0, 1, False), 2)
        self.assert_position((0, 1, 1000001), 2)
        self.assert_position((-1000001, 1, None), 0)
        self.assert_position((0, 1, 2, 3, 4, 5, 6, "7"), 7)
        self.assert_position((0, 1, 2, 3, 4, 5, 6, 7, 8), 8)
        self.assert_position((0, 1, 2, 3, 4, 5, 6, 7, "8"), 8)
        self.assert_position((0, 1, 2, 3, 4, 5, 6, "7", 8), 7)
        self.assert_position((0, 1, 2, 3, 4, 5, 6, 7, 8, "9"), 8)

    def test_other_values(self):
        for value in NO_TUPLES:
            self.assert_position(value, 0)

    def test_all_rings_are_taken(self):
        rings = random_rings(2, 200)
        for length in range(3, 9):
            rings.append((LARGEST_MARK,) * length)
            rings.append((-LARGEST_MARK,) * length)
            for position in range(length):
                for mark in (LARGEST_MARK, -LARGEST_MARK):
                    marks = [0] * length
                    marks[position] = mark
                    rings.append(tuple(marks))
        for marks in rings:
            self.assertIsNone(ring_error(marks))
            find_steps(marks)
            find_modulus(marks)
            self.assert_same(apply_moves(marks, []), marks)
            active_seats(marks)


if __name__ == "__main__":
    unittest.main()
