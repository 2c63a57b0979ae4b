"""Point 6: shortest lists of reflections, and points 4 to 6 together."""

import random
import unittest

from support import (
    NO_INTEGERS,
    MarkringTest,
    difference_of,
    distances_from,
    random_ring,
    random_seats,
    reflected,
)

from markring.distance import min_moves, shortest_moves
from markring.errors import InvalidLimit, NotReachable, TooFar
from markring.moves import apply_moves
from markring.reachability import find_difference, find_moves

BAD_LIMITS = NO_INTEGERS + [-1, 9, 10, -8, 10 ** 30, -10 ** 30]


def ring_of(source, length, largest):
    return tuple(source.randint(-largest, largest) for _ in range(length))


class DistanceTest(MarkringTest):
    def assert_distance(self, first, second, distance, limit):
        """Check that the distance is found if the limit allows it."""
        if distance > limit:
            self.assert_raises(TooFar, {}, shortest_moves, first, second, limit)
            self.assert_raises(TooFar, {}, min_moves, first, second, limit)
            return
        seats = shortest_moves(first, second, limit)
        self.assertIs(type(seats), list)
        self.assertTrue(all(type(seat) is int for seat in seats))
        self.assertLessEqual(set(seats), set(range(len(first))))
        self.assertEqual(len(seats), distance)
        self.assert_same(reflected(first, seats), second)
        self.assert_same(min_moves(first, second, limit), distance)

    def test_examples(self):
        self.assert_same(shortest_moves((0, 1, 3), (0, 2, 3), 3), [1])
        self.assert_same(min_moves((0, 1, 3), (0, 2, 3), 3), 1)
        far = (1000, 1001, 1003)
        self.assert_raises(TooFar, {}, min_moves, (0, 1, 3), far, 8)
        self.assert_raises(TooFar, {}, shortest_moves, (0, 1, 3), far, 8)

    def test_written_out(self):
        self.assert_same(shortest_moves((0, 1, 3), (4, 6, 3), 2), [0, 1])
        self.assert_same(shortest_moves((0, 1, 3), (4, 6, 7), 3), [0, 1, 2])
        self.assert_same(shortest_moves((0, 1, 3), (-5, -3, -2), 8), [2, 1, 0])
        # Seats that do not lie beside each other may be reflected in any order.
        self.assertIn(shortest_moves((0, 1, 3, 9), (10, 1, 7, 9), 2), ([0, 2], [2, 0]))
        self.assert_same(min_moves((0, 1, 3), (9, 10, 12), 8), 6)
        self.assert_same(min_moves((0, 1, 1), (1, 1, 0), 8), 2)

    def test_equal_rings(self):
        source = random.Random(61)
        for _ in range(60):
            ring = random_ring(source)
            for limit in range(9):
                self.assert_same(shortest_moves(ring, ring, limit), [])
                self.assert_same(min_moves(ring, ring, limit), 0)

    def test_all_rings_up_to_four_reflections_away(self):
        source = random.Random(62)
        for length in (3, 4, 5):
            for largest in (1, 2, 5, 1000):
                first = ring_of(source, length, largest)
                for second, distance in distances_from(first, 4).items():
                    for limit in range(7):
                        self.assert_distance(first, second, distance, limit)
                    self.assert_distance(first, second, distance, 8)

    def test_up_to_eight_seats_and_limits(self):
        source = random.Random(63)
        for length in range(3, 9):
            for largest in (1, 3, 10000):
                first = ring_of(source, length, largest)
                rings = {}
                for ring, distance in distances_from(first, 8).items():
                    rings.setdefault(distance, []).append(ring)
                for distance, found in rings.items():
                    for second in source.sample(found, min(3, len(found))):
                        self.assert_distance(first, second, distance, 8)
                        self.assert_distance(first, second, distance, distance)
                        self.assert_distance(first, second, distance, max(0, distance - 1))
                        self.assert_distance(second, first, distance, distance)

    def test_rings_nine_reflections_away(self):
        source = random.Random(64)
        for length in (3, 4, 5):
            first = ring_of(source, length, 50)
            distances = distances_from(first, 9)
            found = [ring for ring, distance in distances.items() if distance == 9]
            for second in source.sample(found, min(5, len(found))):
                self.assertIsNone(find_difference(first, second))
                for limit in (0, 7, 8):
                    self.assert_distance(first, second, 9, limit)

    def test_all_limits_lead_to_the_same_length(self):
        source = random.Random(65)
        for _ in range(150):
            first = random_ring(source, source.choice([1, 3, 100]))
            second = reflected(first, random_seats(source, len(first), 8))
            distance = min_moves(first, second, 8)
            for limit in range(9):
                self.assert_distance(first, second, distance, limit)

    def test_a_new_list_each_time(self):
        seats = shortest_moves((0, 1, 3), (4, 6, 7), 3)
        seats.append("x")
        self.assert_same(shortest_moves((0, 1, 3), (4, 6, 7), 3), [0, 1, 2])
        seats = shortest_moves((0, 1, 3), (0, 1, 3), 3)
        seats.append("x")
        self.assert_same(shortest_moves((0, 1, 3), (0, 1, 3), 3), [])


class ErrorsTest(MarkringTest):
    def assert_both(self, error, first, second, limit):
        self.assert_raises(error, {}, shortest_moves, first, second, limit)
        self.assert_raises(error, {}, min_moves, first, second, limit)

    def test_invalid_limits(self):
        pairs = [
            ((0, 1, 3), (0, 1, 3)),
            ((0, 1, 3), (0, 2, 3)),
            ((0, 1, 3), (0, 2, 4)),
            ((0, 1, 3), (0, 1, 3, 4)),
            ((0, 1, 3), (1000, 1001, 1003)),
        ]
        for limit in BAD_LIMITS:
            for first, second in pairs:
                self.assert_both(InvalidLimit, first, second, limit)

    def test_unreachable_rings(self):
        pairs = [
            ((0, 1, 3), (0, 2, 4)),
            ((0, 1, 3), (0, 1, 3, 3)),
            ((0,) * 8, (0,) * 7),
            ((4, 4, 4), (5, 5, 5)),
            ((0, 2, 0, -2), (1, 3, 1, -1)),
            ((0, 1, 3), (1000, 1001, 1004)),
        ]
        for limit in range(9):
            for first, second in pairs:
                self.assert_both(NotReachable, first, second, limit)
                self.assert_both(NotReachable, second, first, limit)

    def test_far_rings(self):
        pairs = [
            ((0, 1, 3), (1000, 1001, 1003)),
            ((0, 1, 3), (1000000, 999997, 999999)),
            ((0, 0, 0, 0, 0, 0, 0, 1), (500, 500, 500, 500, 500, 500, 500, 501)),
        ]
        for limit in range(9):
            for first, second in pairs:
                self.assert_both(TooFar, first, second, limit)
                self.assert_both(TooFar, second, first, limit)
        self.assert_both(TooFar, (0, 1, 3), (0, 2, 3), 0)
        self.assert_both(TooFar, (0, 1, 3), (9, 10, 12), 5)


class TogetherTest(MarkringTest):
    """Points 4, 5 and 6 agree with each other and with a search of all rings."""

    def test_there_and_back(self):
        source = random.Random(66)
        for _ in range(40):
            first = random_ring(source, source.choice([1, 2, 4]))
            for second, distance in distances_from(first, 3).items():
                self.assertIsNone(difference_of(first, second))
                there = find_moves(first, second)
                back = find_moves(second, first)
                self.assert_same(apply_moves(first, there), second)
                self.assert_same(apply_moves(second, back), first)
                self.assert_same(apply_moves(first, there + back), first)
                shortest = shortest_moves(first, second, 3)
                self.assert_same(apply_moves(first, shortest), second)
                self.assert_same(apply_moves(second, shortest[::-1]), first)
                self.assertEqual(len(shortest), distance)
                self.assert_same(min_moves(first, second, 3), distance)
                self.assert_same(min_moves(second, first, 3), distance)
                self.assertLessEqual(distance, len(there))
                self.assertLessEqual(distance, len(back))


if __name__ == "__main__":
    unittest.main()
