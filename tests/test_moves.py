"""Point 4: reflections, active seats and pinned seats."""

import copy
import itertools
import random
import unittest

from support import (
    NO_LISTS,
    NO_SEATS,
    NO_TUPLES,
    MarkringTest,
    move_error,
    pins_valid,
    random_pins,
    random_ring,
    random_seats,
    reflected,
)

from markring.errors import InvalidMove, InvalidPins
from markring.moves import active_seats, apply_moves


def random_case(source):
    """Return a ring, pinned seats and up to thirty seats to reflect."""
    marks = random_ring(source)
    pins = random_pins(source, len(marks))
    return marks, pins, random_seats(source, len(marks), 30, pins)


def changing_seats(marks, pins):
    """Return the seats whose reflection gives another ring."""
    seats = [seat for seat in range(len(marks)) if seat not in pins]
    return [seat for seat in seats if reflected(marks, [seat]) != marks]


class ApplyTest(MarkringTest):
    def test_examples(self):
        self.assert_same(apply_moves((0, 1, 3), [1]), (0, 2, 3))
        expected = {"position": 0, "reason": "pinned"}
        self.assert_raises(InvalidMove, expected, apply_moves, (0, 1, 3), [0], pins=(0,))

    def test_written_out(self):
        self.assert_same(apply_moves((0, 1, 3), []), (0, 1, 3))
        self.assert_same(apply_moves((0, 1, 3), [0]), (4, 1, 3))
        self.assert_same(apply_moves((0, 1, 3), [2]), (0, 1, -2))
        self.assert_same(apply_moves((0, 1, 3), [1, 1]), (0, 1, 3))
        # (0, 1, 3), then (4, 1, 3), (4, 6, 3), (4, 6, 7).
        self.assert_same(apply_moves((0, 1, 3), [0, 1, 2]), (4, 6, 7))
        # (0, 1, 3), then (0, 1, -2), (0, -3, -2), (-5, -3, -2).
        self.assert_same(apply_moves((0, 1, 3), [2, 1, 0]), (-5, -3, -2))
        # (1, 2, 4, 8), then (1, 2, 4, -3), (-2, 2, 4, -3).
        self.assert_same(apply_moves((1, 2, 4, 8), [3, 0]), (-2, 2, 4, -3))
        # Seat 7 lies beside the seats 6 and 0.
        ring = (10, 0, 0, 0, 0, 0, 5, 1)
        self.assert_same(apply_moves(ring, [7]), (10, 0, 0, 0, 0, 0, 5, 14))
        self.assert_same(apply_moves(ring, [0]), (-9, 0, 0, 0, 0, 0, 5, 1))

    def test_results_beyond_the_limits(self):
        ring = (1000000, 1000000, -1000000)
        self.assert_same(apply_moves(ring, [2]), (1000000, 1000000, 3000000))
        self.assert_same(apply_moves(ring, [2, 0]), (3000000, 1000000, 3000000))
        ring = (-1000000, -1000000, 1000000)
        self.assert_same(apply_moves(ring, [2]), (-1000000, -1000000, -3000000))

    def test_random_reflections_without_pins(self):
        source = random.Random(41)
        for _ in range(500):
            marks = random_ring(source)
            seats = [source.randrange(len(marks)) for _ in range(source.randint(0, 30))]
            self.assert_same(apply_moves(marks, seats), reflected(marks, seats))
            self.assert_same(apply_moves(marks, seats, pins=()), reflected(marks, seats))

    def test_random_reflections_with_pins(self):
        source = random.Random(42)
        for _ in range(500):
            marks, pins, seats = random_case(source)
            result = apply_moves(marks, seats, pins=pins)
            self.assert_same(result, reflected(marks, seats))
            for pin in pins:
                self.assertEqual(result[pin], marks[pin])

    def test_all_seats_pinned(self):
        for length in range(3, 9):
            marks = tuple(range(length))
            pins = tuple(range(length))
            self.assert_same(apply_moves(marks, [], pins=pins), marks)
            for seat in range(length):
                expected = {"position": 0, "reason": "pinned"}
                self.assert_raises(InvalidMove, expected, apply_moves, marks, [seat], pins=pins)

    def test_arguments_are_not_modified(self):
        source = random.Random(43)
        for _ in range(200):
            marks, pins, seats = random_case(source)
            kept = copy.deepcopy((marks, pins, seats))
            first = apply_moves(marks, seats, pins=pins)
            self.assert_same((marks, pins, seats), kept)
            self.assert_same(apply_moves(marks, seats, pins=pins), first)
            seats.append("x")
            kept = copy.deepcopy(seats)
            with self.assertRaises(InvalidMove):
                apply_moves(marks, seats, pins=pins)
            self.assert_same(seats, kept)

    def test_pins_only_by_keyword(self):
        with self.assertRaises(TypeError):
            apply_moves((0, 1, 3), [1], (0,))
        with self.assertRaises(TypeError):
            active_seats((0, 1, 3), (0,))


class ActiveTest(MarkringTest):
    def test_example(self):
        self.assert_same(active_seats((0, 1, 2, 1)), [0, 2])

    def test_written_out(self):
        self.assert_same(active_seats((0, 1, 2, 1), pins=(0,)), [2])
        self.assert_same(active_seats((0, 1, 2, 1), pins=(1, 3)), [0, 2])
        self.assert_same(active_seats((0, 1, 2, 1), pins=(0, 2)), [])
        self.assert_same(active_seats((0, 1, 3)), [0, 1, 2])
        self.assert_same(active_seats((0, 1, 3), pins=(0, 1, 2)), [])
        self.assert_same(active_seats((6, 6, 6)), [])
        self.assert_same(active_seats((0, 0, 0, 1)), [0, 2, 3])

    def test_random_rings(self):
        source = random.Random(44)
        for _ in range(500):
            marks = random_ring(source)
            self.assert_same(active_seats(marks), changing_seats(marks, ()))
            self.assert_same(active_seats(marks, pins=()), changing_seats(marks, ()))
            pins = random_pins(source, len(marks))
            self.assert_same(active_seats(marks, pins=pins), changing_seats(marks, pins))

    def test_a_new_list_each_time(self):
        ring, pins = (0, 1, 3, 3), (1,)
        first = active_seats(ring, pins=pins)
        first.append("x")
        second = active_seats(ring, pins=pins)
        self.assert_same(second, changing_seats(ring, pins))
        self.assertIsNot(first, second)


class PinsTest(MarkringTest):
    def assert_pins(self, marks, pins):
        self.assertFalse(pins_valid(pins, len(marks)), pins)
        self.assert_raises(InvalidPins, {}, active_seats, marks, pins=pins)
        # InvalidPins comes before InvalidMove.
        for seats in ([], [0], [99], [0, True], None, (0,), "0"):
            self.assert_raises(InvalidPins, {}, apply_moves, marks, seats, pins=pins)

    def test_no_tuple(self):
        for value in NO_TUPLES:
            self.assert_pins((0, 1, 3), value)

    def test_no_seats(self):
        for bad in NO_SEATS:
            self.assert_pins((0, 1, 3, 5, 4, 2, 2, 1), (bad,))
            self.assert_pins((0, 1, 3, 5, 4, 2, 2, 1), (0, bad))
            self.assert_pins((0, 1, 3, 5, 4, 2, 2, 1), (bad, 7))
        for length in range(3, 9):
            marks = (0,) * length
            self.assert_pins(marks, (length,))
            self.assert_pins(marks, (0, length))
            self.assert_pins(marks, (-1,))
            self.assert_pins(marks, (-1, 0))

    def test_order_and_duplicates(self):
        self.assert_pins((0, 1, 3), (1, 0))
        self.assert_pins((0, 1, 3), (0, 0))
        self.assert_pins((0, 1, 3), (2, 2))
        self.assert_pins((0, 1, 3), (0, 1, 1))
        self.assert_pins((0, 1, 3), (0, 2, 1))
        self.assert_pins((0, 1, 3), (0, 1, 2, 2))
        self.assert_pins((0, 1, 3, 4), (1, 3, 2))

    def test_every_tuple_of_up_to_four_numbers(self):
        marks = (0, 1, 3)
        for number in range(5):
            for pins in itertools.product(range(-1, 4), repeat=number):
                if pins_valid(pins, 3):
                    self.assert_same(active_seats(marks, pins=pins), changing_seats(marks, pins))
                    self.assert_same(apply_moves(marks, [], pins=pins), marks)
                else:
                    self.assert_pins(marks, pins)


class MovesErrorTest(MarkringTest):
    def assert_move(self, marks, seats, pins, position, reason):
        self.assertEqual(move_error(seats, len(marks), pins), (position, reason))
        expected = {"position": position, "reason": reason}
        self.assert_raises(InvalidMove, expected, apply_moves, marks, seats, pins=pins)

    def test_no_list(self):
        for value in NO_LISTS:
            self.assert_move((0, 1, 3), value, (), 0, "seat")
            self.assert_move((0, 1, 3), value, (0,), 0, "seat")

    def test_no_seat(self):
        marks = (0, 1, 3, 5, 4, 2, 2, 1)
        for bad in NO_SEATS:
            for position in range(4):
                seats = [7, 0, 3]
                seats.insert(position, bad)
                self.assert_move(marks, seats, (), position, "seat")
        for length in range(3, 9):
            self.assert_move((0,) * length, [length], (), 0, "seat")
            self.assert_move((0,) * length, [length - 1, length], (), 1, "seat")
            self.assert_move((0,) * length, [0, -1], (), 1, "seat")

    def test_pinned(self):
        for position in range(5):
            seats = [0, 2, 0, 2]
            seats.insert(position, 1)
            self.assert_move((0, 1, 3), seats, (1,), position, "pinned")
        self.assert_move((0, 1, 3, 4), [3], (0, 3), 0, "pinned")
        self.assert_move((0, 1, 3, 4), [1, 0], (0, 3), 1, "pinned")

    def test_the_first_invalid_entry(self):
        self.assert_move((0, 1, 3), [0, 1, 99], (1,), 1, "pinned")
        self.assert_move((0, 1, 3), [0, 99, 1], (1,), 1, "seat")
        self.assert_move((0, 1, 3), [2, True, 1], (1,), 1, "seat")
        self.assert_move((0, 1, 3), [False], (0, 1), 0, "seat")
        self.assert_move((0, 1, 3), [0, 0, 1, 1], (1, 2), 2, "pinned")

    def test_random_lists(self):
        source = random.Random(45)
        for _ in range(1500):
            marks, pins, seats = random_case(source)
            for _ in range(source.randint(1, 3)):
                bad = source.choice([*NO_SEATS, *range(9)])
                seats.insert(source.randint(0, len(seats)), bad)
            error = move_error(seats, len(marks), pins)
            if error is None:
                self.assert_same(apply_moves(marks, seats, pins=pins), reflected(marks, seats))
            else:
                self.assert_move(marks, seats, pins, *error)


if __name__ == "__main__":
    unittest.main()
