"""Point 9: number, ranks and marks of reachable rings, and points 8 and 9 together."""

import random
import unittest

from support import (
    NO_INTEGERS,
    NO_SEATS,
    MarkringTest,
    distances_from,
    invalid_pins,
    marks_from,
    pinned_rings_of,
    random_ring,
    random_some_pins,
    reflected,
)

from markring.errors import InvalidIndex, InvalidPins
from markring.moves import apply_moves
from markring.pinned import (
    count_pinned,
    find_arcs,
    find_pinned_difference,
    pinned_at,
    pinned_moves,
    possible_marks,
    rank_pinned,
)

BAD_RANKS = NO_INTEGERS + [-1, -2, -6, 10 ** 30, -10 ** 30]

# All steps are different, so that each order of the eight steps is another ring.
MANY = marks_from(3, (1, 20, -4, 300, 17, -333, 6, -7))


def small_cases(seed, number, most=400):
    """Return triples of a ring, pinned seats and the list of all reachable rings."""
    source = random.Random(seed)
    cases = []
    while len(cases) < number:
        ring = random_ring(source, source.choice([0, 1, 2, 9, 1000000]))
        pins = random_some_pins(source, len(ring))
        if len(ring) - len(pins) < 7:
            rings = pinned_rings_of(ring, pins)
            # A ring of the list has to be a valid argument, too.
            valid = all(abs(mark) <= 1000000 for one in rings for mark in one)
            if len(rings) <= most and valid:
                cases.append((ring, pins, rings))
    return cases


class RanksTest(MarkringTest):
    def test_examples(self):
        self.assert_same(count_pinned((0, 1, 3), (0,)), 6)
        self.assert_same(rank_pinned((0, 1, 3), (0,)), 3)
        self.assert_same(pinned_at((0, 1, 3), (0,), 0), (0, -3, -2))
        self.assert_raises(InvalidIndex, {}, pinned_at, (0, 1, 3), (0,), 6)

    def test_written_out(self):
        # The orders -3 1 2, -3 2 1, 1 -3 2, 1 2 -3, 2 -3 1, 2 1 -3.
        rings = [(0, -3, -2), (0, -3, -1), (0, 1, -2), (0, 1, 3), (0, 2, -1), (0, 2, 3)]
        for rank, ring in enumerate(rings):
            self.assert_same(pinned_at((0, 1, 3), (0,), rank), ring)
            self.assert_same(rank_pinned(ring, (0,)), rank)
        # The arc of seat 1 begins at seat 1: the same orders from there.
        rings = [(-1, 1, -2), (0, 1, -2), (-1, 1, 2), (4, 1, 2), (0, 1, 3), (4, 1, 3)]
        for rank, ring in enumerate(rings):
            self.assert_same(pinned_at((0, 1, 3), (1,), rank), ring)
            self.assert_same(rank_pinned(ring, (1,)), rank)
        # The arcs 1 2 and -3 1 -1 change: the one of the first pinned seat counts most.
        ring = (0, 1, 3, 0, 1)
        self.assert_same(count_pinned(ring, (0, 2)), 12)
        self.assert_same(rank_pinned(ring, (0, 2)), 1)
        self.assert_same(rank_pinned((0, 2, 3, 0, 1), (0, 2)), 7)
        self.assert_same(pinned_at(ring, (0, 2), 0), (0, 1, 3, 0, -1))
        self.assert_same(pinned_at(ring, (0, 2), 5), (0, 1, 3, 4, 3))
        self.assert_same(pinned_at(ring, (0, 2), 6), (0, 2, 3, 0, -1))
        self.assert_same(pinned_at(ring, (0, 2), 11), (0, 2, 3, 4, 3))

    def test_numbers(self):
        self.assert_same(count_pinned((4, 4, 4), (1,)), 1)
        self.assert_same(count_pinned((0, 1, 3), (0, 1, 2)), 1)
        self.assert_same(count_pinned((0, 1, 3), (0, 1)), 2)
        # The steps 1, 1, -1, -1.
        self.assert_same(count_pinned((0, 1, 2, 1), (0,)), 6)
        self.assert_same(count_pinned((0, 1, 2, 1), (0, 2)), 1)
        self.assert_same(count_pinned((0, 1, 2, 1), (1, 3)), 4)
        # The steps 1 and -1, four times each.
        self.assert_same(count_pinned((0, 1, 0, 1, 0, 1, 0, 1), (6,)), 70)
        self.assert_same(count_pinned(MANY, (7,)), 40320)
        self.assert_same(count_pinned(MANY, (0, 4)), 576)
        self.assert_same(count_pinned(MANY, (2, 3)), 5040)

    def test_small_rings(self):
        source = random.Random(91)
        for ring, pins, rings in small_cases(92, 120):
            self.assert_same(count_pinned(ring, pins), len(rings))
            self.assert_same(rank_pinned(ring, pins), rings.index(ring))
            for rank in source.sample(range(len(rings)), min(40, len(rings))):
                self.assert_same(pinned_at(ring, pins, rank), rings[rank])
                self.assert_same(rank_pinned(rings[rank], pins), rank)
                self.assert_same(pinned_at(rings[rank], pins, rank), rings[rank])
                self.assert_same(count_pinned(rings[rank], pins), len(rings))

    def test_all_ranks_in_order(self):
        for ring, pins, rings in small_cases(93, 25, 120):
            found = [pinned_at(ring, pins, rank) for rank in range(len(rings))]
            self.assert_same(found, rings)
            ranks = [rank_pinned(other, pins) for other in rings]
            self.assert_same(ranks, list(range(len(rings))))

    def test_results_beyond_the_limits(self):
        ring = (0, 1000000, 0, -1000000, 0)
        # The steps are 1000000, -1000000, -1000000, 1000000, 0.
        self.assert_same(count_pinned(ring, (0,)), 30)
        self.assert_same(pinned_at(ring, (0,), 0), (0, -1000000, -2000000, -2000000, -1000000))
        self.assert_same(pinned_at(ring, (0,), 29), (0, 1000000, 2000000, 2000000, 1000000))

    def test_invalid_ranks(self):
        for ring, pins, rings in small_cases(94, 60):
            for rank in BAD_RANKS + [len(rings), len(rings) + 1, -len(rings)]:
                self.assert_raises(InvalidIndex, {}, pinned_at, ring, pins, rank)
        self.assert_raises(InvalidIndex, {}, pinned_at, (4, 4, 4), (0,), 1)
        self.assert_raises(InvalidIndex, {}, pinned_at, (4, 4, 4), (0,), True)
        self.assert_raises(InvalidIndex, {}, pinned_at, (4, 4, 4), (0,), False)
        self.assert_same(pinned_at((4, 4, 4), (0,), 0), (4, 4, 4))
        self.assert_raises(InvalidIndex, {}, pinned_at, MANY, (0,), 40320)


class PossibleMarksTest(MarkringTest):
    def test_example(self):
        self.assert_same(possible_marks((0, 1, 3), (0,), 1), [-3, 1, 2])

    def test_written_out(self):
        self.assert_same(possible_marks((0, 1, 3), (0,), 0), [0])
        self.assert_same(possible_marks((0, 1, 3), (0,), 2), [-2, -1, 3])
        self.assert_same(possible_marks((0, 1, 3), (0, 2), 1), [1, 2])
        self.assert_same(possible_marks((0, 1, 3), (0, 2), 2), [3])
        # Seat 0 lies in the arc of seat 2, with the steps -3 and 1.
        self.assert_same(possible_marks((0, 1, 3), (1, 2), 0), [0, 4])
        self.assert_same(possible_marks((4, 4, 4), (0,), 2), [4])
        # The steps 1, 1, -1, -1.
        self.assert_same(possible_marks((0, 1, 2, 1), (0,), 2), [-2, 0, 2])

    def test_all_seats(self):
        for ring, pins, rings in small_cases(95, 120):
            for seat in range(len(ring)):
                expected = sorted({other[seat] for other in rings})
                self.assert_same(possible_marks(ring, pins, seat), expected)

    def test_invalid_seats(self):
        for ring, pins, _ in small_cases(96, 30):
            for seat in NO_SEATS + [len(ring), len(ring) + 1, -len(ring)]:
                self.assert_raises(InvalidIndex, {}, possible_marks, ring, pins, seat)

    def test_a_list_that_the_caller_modifies(self):
        for ring, pins, rings in small_cases(97, 20):
            for seat in range(len(ring)):
                possible_marks(ring, pins, seat).append("x")
                expected = sorted({other[seat] for other in rings})
                self.assert_same(possible_marks(ring, pins, seat), expected)


class PinsTest(MarkringTest):
    def test_invalid_pins(self):
        for length in range(3, 9):
            ring = tuple(range(length))
            for pins in invalid_pins(length):
                self.assert_raises(InvalidPins, {}, count_pinned, ring, pins)
                self.assert_raises(InvalidPins, {}, rank_pinned, ring, pins)
                for index in (0, -1, 10 ** 9, True, None, "0", [0], (0,)):
                    self.assert_raises(InvalidPins, {}, pinned_at, ring, pins, index)
                    self.assert_raises(InvalidPins, {}, possible_marks, ring, pins, index)


class TogetherTest(MarkringTest):
    """The functions of points 8 and 9 agree with each other."""

    def assert_agreement(self, source, ring, pins):
        number = count_pinned(ring, pins)
        possible = [possible_marks(ring, pins, seat) for seat in range(len(ring))]
        self.assert_same(pinned_at(ring, pins, rank_pinned(ring, pins)), ring)
        before = None
        for rank in sorted(source.sample(range(number), min(8, number))):
            other = pinned_at(ring, pins, rank)
            if any(abs(mark) > 1000000 for mark in other):
                continue
            self.assert_same(rank_pinned(other, pins), rank)
            self.assert_same(count_pinned(other, pins), number)
            self.assertIsNone(find_pinned_difference(ring, other, pins))
            seats = pinned_moves(ring, other, pins)
            self.assertEqual(len(pinned_moves(other, ring, pins)), len(seats))
            self.assert_same(apply_moves(ring, seats, pins=pins), other)
            self.assert_same(reflected(ring, seats), other)
            for seat, mark in enumerate(other):
                self.assertIn(mark, possible[seat])
                self.assert_same(possible_marks(other, pins, seat), possible[seat])
            arcs = [tuple(arc) for arc in find_arcs(other, pins)]
            if before is not None:
                self.assertLess(before, arcs)
            before = arcs

    def test_random_rings(self):
        source = random.Random(98)
        for _ in range(250):
            ring = random_ring(source)
            pins = random_some_pins(source, len(ring), 3)
            self.assert_agreement(source, ring, pins)

    def test_very_many_reachable_rings(self):
        source = random.Random(99)
        for pin in range(8):
            self.assertEqual(count_pinned(MANY, (pin,)), 40320)
            self.assert_agreement(source, MANY, (pin,))

    def test_all_of_very_many_reachable_rings(self):
        rings = pinned_rings_of(MANY, (6,))
        distances = distances_from(MANY, pins=(6,))
        self.assertEqual(len(rings), 40320)
        for rank in range(0, 40320, 97):
            ring = rings[rank]
            self.assert_same(pinned_at(MANY, (6,), rank), ring)
            self.assert_same(rank_pinned(ring, (6,)), rank)
            self.assertEqual(len(pinned_moves(MANY, ring, (6,))), distances[ring])
        for seat in range(8):
            expected = sorted({ring[seat] for ring in rings})
            self.assert_same(possible_marks(MANY, (6,), seat), expected)


if __name__ == "__main__":
    unittest.main()
