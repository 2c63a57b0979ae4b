"""Point 2: what is a ring, for each function that takes one."""

import unittest

from support import LARGEST_MARK, NO_TUPLES, MarkringTest, invalid_rings, random_rings, ring_error

from markring.blocks import block_drift, block_period, first_time, repeat_block
from markring.distance import min_moves, shortest_moves
from markring.errors import InvalidMarks
from markring.inference import HiddenRing
from markring.moves import active_seats, apply_moves
from markring.pinned import (
    count_pinned,
    find_arcs,
    find_pinned_difference,
    pinned_at,
    pinned_moves,
    possible_marks,
    rank_pinned,
)
from markring.reachability import find_difference, find_moves
from markring.rings import find_modulus, find_steps
from markring.textio import format_session
from markring.workbench import Workbench, replay

# Other arguments of each function: valid ones, then ones that are wrong, too.
CALLS = [
    (find_steps, (), {}),
    (find_modulus, (), {}),
    (apply_moves, ([],), {}),
    (apply_moves, ([0, 1],), {"pins": (2,)}),
    (active_seats, (), {}),
    (active_seats, (), {"pins": (0, 1)}),
    (apply_moves, ([99],), {}),
    (apply_moves, ([0],), {"pins": (0,)}),
    (apply_moves, (None,), {"pins": None}),
    (apply_moves, ([True],), {"pins": (5, 5)}),
    (active_seats, (), {"pins": [0]}),
    (active_seats, (), {"pins": (-1, "x")}),
    (find_arcs, ((0,),), {}),
    (find_arcs, ((),), {}),
    (count_pinned, ((0, 2),), {}),
    (count_pinned, ((5, 5),), {}),
    (rank_pinned, ((1,),), {}),
    (rank_pinned, (None,), {}),
    (pinned_at, ((0,), 0), {}),
    (pinned_at, ((), True), {}),
    (possible_marks, ((0,), 0), {}),
    (possible_marks, ([0], -1), {}),
    (repeat_block, ([0, 1], 5), {}),
    (repeat_block, ([99], -1), {}),
    (repeat_block, (None, None), {}),
    (block_drift, ([],), {}),
    (block_drift, ((0,),), {}),
    (block_period, ([0],), {}),
    (block_period, ([True],), {}),
    (first_time, ([0], 0, 5), {}),
    (first_time, ([-1], -1, 5), {}),
    (first_time, ([], None, 5), {}),
    (HiddenRing, ((0,),), {}),
    (HiddenRing, ((),), {}),
    (HiddenRing, ([0],), {}),
    (Workbench, (), {}),
    (replay, ([("shift", 1)],), {}),
    (replay, ([("shift",), None],), {}),
    (replay, (None,), {}),
    (format_session, ([("undo",)],), {}),
    (format_session, ([("reflect", 99)],), {}),
    (format_session, ((),), {}),
]

# Workbenches without and with pinned seats, which are asked for other rings.
FREE = Workbench((0, 0, 0))
PINNED = replay((0, 1, 3), [("pin", (0, 2))])

# Functions of two rings with what follows the rings: valid ones, then wrong ones.
PAIR_CALLS = [
    (find_difference, ()),
    (find_moves, ()),
    (shortest_moves, (8,)),
    (shortest_moves, (9,)),
    (min_moves, (0,)),
    (min_moves, (None,)),
    (find_pinned_difference, ((0,),)),
    (find_pinned_difference, ((),)),
    (pinned_moves, ((1, 2),)),
    (pinned_moves, ([0],)),
]


class MarksTest(MarkringTest):
    def assert_position(self, marks, position):
        for function, values, keywords in CALLS:
            expected = {"position": position}
            self.assert_raises(InvalidMarks, expected, function, marks, *values, **keywords)
        for function, values in PAIR_CALLS:
            # The second ring is (0, 0, 0), one with other seats or steps, or no ring either.
            for other in ((0, 0, 0), (0, 1, 3, 3), (0, 0, 0, None), None):
                self.assert_raises(InvalidMarks, expected, function, marks, other, *values)
            for other in ((0, 0, 0), (0, 1, 3, 3)):
                self.assert_raises(InvalidMarks, expected, function, other, marks, *values)
        for workbench in (FREE, PINNED):
            self.assert_raises(InvalidMarks, {"position": position}, workbench.reaches, marks)

    def test_the_reference_agrees_with_the_listed_cases(self):
        for marks, position in invalid_rings():
            self.assertEqual(ring_error(marks), position, marks)

    def test_invalid_rings(self):
        for marks, position in invalid_rings():
            self.assert_position(marks, position)

    def test_written_out(self):
        self.assert_position((0, 1), 2)
        self.assert_position((), 0)
        self.assert_position((4,), 1)
        self.assert_position((True, 1), 0)
        self.assert_position((0, False), 1)
        self.assert_position((0, True, 3), 1)
        self.assert_position((0, 1, False), 2)
        self.assert_position((0, 1, 1000001), 2)
        self.assert_position((-1000001, 1, None), 0)
        self.assert_position((0, 1, 2, 3, 4, 5, 6, "7"), 7)
        self.assert_position((0, 1, 2, 3, 4, 5, 6, 7, 8), 8)
        self.assert_position((0, 1, 2, 3, 4, 5, 6, 7, "8"), 8)
        self.assert_position((0, 1, 2, 3, 4, 5, 6, "7", 8), 7)
        self.assert_position((0, 1, 2, 3, 4, 5, 6, 7, 8, "9"), 8)

    def test_other_values(self):
        for value in NO_TUPLES:
            self.assert_position(value, 0)

    def test_all_rings_are_taken(self):
        rings = random_rings(2, 200)
        for length in range(3, 9):
            rings.append((LARGEST_MARK,) * length)
            rings.append((-LARGEST_MARK,) * length)
            for position in range(length):
                for mark in (LARGEST_MARK, -LARGEST_MARK):
                    marks = [0] * length
                    marks[position] = mark
                    rings.append(tuple(marks))
        for marks in rings:
            self.assertIsNone(ring_error(marks))
            find_steps(marks)
            find_modulus(marks)
            self.assert_same(apply_moves(marks, []), marks)
            active_seats(marks)
            find_arcs(marks, (0,))
            self.assertIsNone(find_difference(marks, marks))
            self.assertIsNone(find_pinned_difference(marks, marks, (0,)))
            self.assertEqual(find_moves(marks, marks), [])
            self.assertEqual(shortest_moves(marks, marks, 0), [])
            self.assertEqual(min_moves(marks, marks, 0), 0)
            self.assertEqual(pinned_moves(marks, marks, (0,)), [])
            self.assert_same(pinned_at(marks, (0,), rank_pinned(marks, (0,))), marks)
            self.assertGreaterEqual(count_pinned(marks, (0,)), 1)
            self.assertIn(marks[1], possible_marks(marks, (0,), 1))
            self.assert_same(repeat_block(marks, [], 1), marks)
            self.assert_same(block_drift(marks, []), (1, 0))
            self.assert_same(block_period(marks, []), 1)
            self.assert_same(first_time(marks, [], 1, marks[1]), 0)
            self.assertIn(marks, HiddenRing(marks, (0, 3) if len(marks) > 3 else (0,)).candidates())
            self.assert_same(Workbench(marks).ring(), marks)
            self.assert_same(Workbench(marks).reaches(marks), True)
            self.assert_same(replay(marks, []).ring(), marks)
            self.assertTrue(format_session(marks, []).startswith("marks "))


if __name__ == "__main__":
    unittest.main()
