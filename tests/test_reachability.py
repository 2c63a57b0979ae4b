"""Point 5: the first difference of two rings and reflections between them."""

import itertools
import random
import unittest

from support import (
    LARGEST_MARK,
    MarkringTest,
    difference_of,
    distances_from,
    marks_from,
    modulus_of,
    random_ring,
    random_seats,
    reflected,
    steps_of,
)

from markring.errors import NotReachable
from markring.reachability import find_difference, find_moves


def similar_ring(source, marks):
    """Return a ring that differs from another one in one of several ways."""
    steps = list(steps_of(marks))
    first = marks[0]
    way = source.choice(["reflected", "shifted", "exchanged", "changed", "mark", "random"])
    if way == "reflected":
        return reflected(marks, random_seats(source, len(marks), 12))
    if way == "shifted":
        first += source.randint(-12, 12)
    elif way == "exchanged":
        source.shuffle(steps)
    elif way == "changed":
        one, other = source.sample(range(len(marks)), 2)
        change = source.randint(-2, 2)
        steps[one] += change
        steps[other] -= change
    elif way == "mark":
        changed = list(marks)
        changed[source.randrange(len(marks))] += source.randint(-2, 2)
        return tuple(changed)
    else:
        return random_ring(source, max(map(abs, marks)))
    return marks_from(first, steps)


def within_limits(marks):
    return all(abs(mark) <= LARGEST_MARK for mark in marks)


def random_pairs(seed, number, largest=None):
    source = random.Random(seed)
    pairs = []
    while len(pairs) < number:
        first = random_ring(source, largest)
        second = similar_ring(source, first)
        if within_limits(second):
            pairs.append((first, second))
    return pairs


def reachable_pairs(seed, number, largest):
    """Return rings with the same steps in any order and equal first marks modulo [3]."""
    source = random.Random(seed)
    pairs = []
    while len(pairs) < number:
        first = random_ring(source, largest)
        steps = list(steps_of(first))
        source.shuffle(steps)
        change = modulus_of(first) * source.randint(-largest, largest)
        second = marks_from(first[0] + change, steps)
        if within_limits(second) and abs(change) <= largest:
            pairs.append((first, second))
    return pairs


class DifferenceTest(MarkringTest):
    def assert_difference(self, first, second, expected):
        self.assert_same(find_difference(first, second), expected)
        self.assert_same(difference_of(first, second), expected)

    def test_examples(self):
        self.assert_difference((0, 1, 3), (0, 2, 4), ("step", -4, 0, 1))
        self.assert_difference((0, 2, 0, -2), (1, 3, 1, -1), ("mark", 0, 1))

    def test_seats(self):
        self.assert_difference((0, 1, 3), (0, 1, 3, 3), ("seats", 3, 4))
        self.assert_difference((0,) * 8, (0,) * 3, ("seats", 8, 3))
        self.assert_difference((5, 5, 5), (0, 9, 9, 9, 9), ("seats", 3, 5))

    def test_steps(self):
        # The steps 1, 2, -3 and 2, 1, -3, then -1, -1, 2 and 1, 1, -2.
        self.assert_difference((0, 1, 3), (0, 2, 3), None)
        self.assert_difference((0, -1, -2), (0, 1, 2), ("step", -2, 0, 1))
        self.assert_difference((0, 1, 2), (0, -1, -2), ("step", -2, 1, 0))
        # The steps 1, 1, -1, -1 and 0, 1, 0, -1.
        self.assert_difference((0, 1, 2, 1), (0, 0, 1, 1), ("step", -1, 2, 1))
        self.assert_difference((0, 0, 1, 1), (0, 1, 2, 1), ("step", -1, 1, 2))
        # The steps -2, 0, 0, 2 and -2, 1, -1, 2: the number of -1 differs first.
        self.assert_difference((0, -2, -2, -2), (0, -2, -1, -2), ("step", -1, 0, 1))
        # The marks differ, too, and also the moduli 2 and 1.
        self.assert_difference((1, -1, -1, -1), (0, -2, -1, -2), ("step", -1, 0, 1))
        self.assert_difference((0, 0, 0), (9, 9, 8), ("step", -1, 0, 1))

    def test_marks(self):
        # All steps are 0, so that no reflection changes the ring.
        self.assert_difference((4, 4, 4), (4, 4, 4), None)
        self.assert_difference((4, 4, 4), (-5, -5, -5), ("mark", 4, -5))
        self.assert_difference((-1,) * 8, (-2,) * 8, ("mark", -1, -2))
        # The steps 4, 4, -8 have the modulus 12.
        self.assert_difference((0, 4, 8), (12, 16, 20), None)
        self.assert_difference((0, 4, 8), (-24, -20, -28), None)
        self.assert_difference((-1, 3, 7), (7, 11, 15), ("mark", 11, 7))
        self.assert_difference((-13, -9, -5), (24, 28, 32), ("mark", 11, 0))
        # The steps 2000000, -2000000, 0 have the modulus 2000000.
        ring = (-1000000, 1000000, -1000000)
        self.assert_difference(ring, (1000000, 1000000, -1000000), None)
        self.assert_difference((0, 0, 1), (999999, 1000000, 999999), None)
        self.assert_difference((0, 0, 3), (1, 1, 4), ("mark", 0, 1))

    def test_random_pairs(self):
        kinds = {}
        for largest in (None, 1, 2, 6):
            for first, second in random_pairs(51, 1200, largest):
                difference = find_difference(first, second)
                self.assert_same(difference, difference_of(first, second))
                self.assert_same(find_difference(first, second), difference)
                kind = None if difference is None else difference[0]
                kinds[kind] = kinds.get(kind, 0) + 1
        self.assertEqual(set(kinds), {None, "seats", "step", "mark"})
        self.assertGreater(min(kinds.values()), 100)

    def test_multiples_of_the_modulus(self):
        source = random.Random(52)
        differences = []
        for _ in range(600):
            factor = source.randint(2, 9)
            length = source.randint(3, 8)
            offset = source.randint(-20, 20)
            first = tuple(factor * source.randint(-3, 3) + offset for _ in range(length))
            shift = source.randint(-60, 60)
            second = tuple(mark + shift for mark in first)
            differences.append(find_difference(first, second))
            self.assert_same(differences[-1], difference_of(first, second))
        self.assertGreater(differences.count(None), 50)
        self.assertGreater(len(differences) - differences.count(None), 200)

    def test_both_directions(self):
        for first, second in random_pairs(53, 1500):
            there, back = find_difference(first, second), find_difference(second, first)
            self.assertEqual(there is None, back is None)
            if there is not None and there[0] == "step":
                self.assert_same(back, ("step", there[1], there[3], there[2]))
            elif there is not None:
                self.assert_same(back, (there[0], there[2], there[1]))


class MovesTest(MarkringTest):
    def assert_leads(self, first, second):
        seats = find_moves(first, second)
        self.assertIs(type(seats), list)
        self.assertTrue(all(type(seat) is int for seat in seats))
        self.assertLessEqual(set(seats), set(range(len(first))))
        self.assert_same(reflected(first, seats), second)
        return seats

    def assert_not_reachable(self, first, second):
        self.assert_raises(NotReachable, {}, find_moves, first, second)

    def test_examples(self):
        self.assert_leads((0, 1, 3), (0, 2, -1))
        self.assert_not_reachable((0, 1, 3), (0, 2, 4))

    def test_written_out(self):
        for ring in ((0, 1, 3), (4, 4, 4), (1, 2, 4, 8), (7,) * 8):
            self.assert_leads(ring, ring)
        self.assert_leads((0, 1, 3), (4, 1, 3))
        self.assert_leads((0, 1, 3), (9, 10, 12))
        self.assert_leads((0, 1, 3), (-1, 0, 2))
        self.assert_leads((0, 4, 8), (12, 16, 20))
        self.assert_leads((0, 0, 1, 1, 0), (-3, -2, -2, -3, -3))

    def test_not_reachable(self):
        self.assert_not_reachable((0, 1, 3), (0, 1, 3, 3))
        self.assert_not_reachable((0, 0, 0), (0, 0, 0, 0))
        self.assert_not_reachable((4, 4, 4), (5, 5, 5))
        self.assert_not_reachable((0, 4, 8), (4, 8, 12))
        self.assert_not_reachable((0, 2, 0, -2), (1, 3, 1, -1))

    def test_all_pairs_of_small_rings(self):
        rings = list(itertools.product(range(-1, 3), repeat=3))
        rings += list(itertools.product(range(2), repeat=4))
        for first in rings:
            for second in rings:
                if difference_of(first, second) is None:
                    self.assert_leads(first, second)
                else:
                    self.assert_not_reachable(first, second)

    def test_rings_to_which_reflections_lead(self):
        source = random.Random(54)
        for _ in range(60):
            first = random_ring(source, source.choice([1, 2, 5]))
            for second in distances_from(first, 3):
                self.assertIsNone(find_difference(first, second))
                self.assert_leads(first, second)

    def test_random_pairs(self):
        for largest in (1, 2, 5, 40):
            for first, second in random_pairs(55, 500, largest):
                if difference_of(first, second) is None:
                    self.assert_leads(first, second)
                    self.assert_leads(second, first)
                else:
                    self.assert_not_reachable(first, second)

    def test_far_rings(self):
        for largest in (20, 100, 1000):
            for first, second in reachable_pairs(56, 150, largest):
                self.assert_leads(first, second)
        self.assert_leads((0, 1, 3), (30000, 30001, 30003))
        self.assert_leads((0, 0, 1), (-20000, -20000, -19999))

    def test_large_marks(self):
        # Steps that are large and different need many rounds only with three seats.
        for first, second in reachable_pairs(57, 60, LARGEST_MARK):
            if len(first) > 4:
                self.assert_leads(first, second)
        largest = (-LARGEST_MARK, LARGEST_MARK, -LARGEST_MARK)
        self.assert_leads(largest, (LARGEST_MARK, LARGEST_MARK, -LARGEST_MARK))
        self.assert_leads((0, 0, 0, LARGEST_MARK), (LARGEST_MARK, 0, 0, 0))

    def test_a_new_list_each_time(self):
        for first, second in reachable_pairs(58, 50, 5):
            seats = find_moves(first, second)
            kept = list(seats)
            seats.append("x")
            again = find_moves(first, second)
            self.assert_same(again, kept)
            self.assertIsNot(again, seats)


if __name__ == "__main__":
    unittest.main()
