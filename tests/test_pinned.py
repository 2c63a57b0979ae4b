"""Points 7 and 8: arcs, the first pinned difference and shortest lists."""

import random
import unittest

from support import (
    LARGEST_MARK,
    MarkringTest,
    arcs_of,
    distances_from,
    invalid_pins,
    marks_from,
    pinned_difference_of,
    pinned_rings_of,
    random_ring,
    random_seats,
    random_some_pins,
    reflected,
    some_pins_valid,
    steps_of,
)

from markring.errors import InvalidPins, NotReachable
from markring.pinned import find_arcs, find_pinned_difference, pinned_moves


def similar_ring(source, marks, pins):
    """Return a ring that differs from another one in one of several ways."""
    way = source.choice(["reflected", "reflected", "any", "shuffled", "mark", "random"])
    if way == "reflected":
        return reflected(marks, random_seats(source, len(marks), 15, pins))
    if way == "any":
        return reflected(marks, random_seats(source, len(marks), 3))
    if way == "shuffled":
        steps = list(steps_of(marks))
        source.shuffle(steps)
        return marks_from(marks[0], steps)
    if way == "mark":
        changed = list(marks)
        changed[source.randrange(len(marks))] += source.choice([-1, 1])
        return tuple(changed)
    return random_ring(source, max(map(abs, marks)))


def random_cases(seed, number, largest=None):
    """Return triples of two rings and pinned seats of the first one."""
    source = random.Random(seed)
    cases = []
    while len(cases) < number:
        first = random_ring(source, largest)
        pins = random_some_pins(source, len(first))
        second = similar_ring(source, first, pins)
        if all(abs(mark) <= LARGEST_MARK for mark in second):
            cases.append((first, second, pins))
    return cases


class ArcsTest(MarkringTest):
    def assert_arcs(self, marks, pins, expected):
        self.assert_same(find_arcs(marks, pins), expected)
        self.assert_same(arcs_of(marks, pins), expected)

    def test_example(self):
        self.assert_arcs((0, 1, 3), (0, 2), [[1, 2], [-3]])

    def test_written_out(self):
        self.assert_arcs((0, 1, 3), (0,), [[1, 2, -3]])
        self.assert_arcs((0, 1, 3), (1,), [[2, -3, 1]])
        self.assert_arcs((0, 1, 3), (2,), [[-3, 1, 2]])
        self.assert_arcs((0, 1, 3), (0, 1), [[1], [2, -3]])
        self.assert_arcs((0, 1, 3), (1, 2), [[2], [-3, 1]])
        self.assert_arcs((0, 1, 3), (0, 1, 2), [[1], [2], [-3]])
        # The steps 2, -1, 4, -2, -3.
        self.assert_arcs((0, 2, 1, 5, 3), (1, 3), [[-1, 4], [-2, -3, 2]])
        self.assert_arcs((0, 2, 1, 5, 3), (4,), [[-3, 2, -1, 4, -2]])
        self.assert_arcs((0, 2, 1, 5, 3), (2, 3, 4), [[4], [-2], [-3, 2, -1]])
        self.assert_arcs((6,) * 8, (0, 7), [[0] * 7, [0]])

    def test_random_rings(self):
        for first, _, pins in random_cases(71, 600):
            self.assert_arcs(first, pins, arcs_of(first, pins))

    def test_lists_that_the_caller_modifies(self):
        for first, _, pins in random_cases(72, 60):
            arcs = find_arcs(first, pins)
            for arc in arcs:
                arc.clear()
            arcs.append("x")
            self.assert_arcs(first, pins, arcs_of(first, pins))


class DifferenceTest(MarkringTest):
    def assert_difference(self, first, second, pins, expected):
        self.assert_same(find_pinned_difference(first, second, pins), expected)
        self.assert_same(pinned_difference_of(first, second, pins), expected)

    def test_examples(self):
        self.assert_difference((0, 1, 3), (0, 2, 3), (1,), ("pin", 1, 1, 2))
        self.assert_difference((0, 1, 3), (0, 2, 3), (0,), None)

    def test_seats(self):
        self.assert_difference((0, 1, 3), (0, 1, 3, 3), (0,), ("seats", 3, 4))
        self.assert_difference((0, 1, 3, 3), (5, 1, 3), (3,), ("seats", 4, 3))
        self.assert_difference((0,) * 8, (0,) * 3, (6, 7), ("seats", 8, 3))

    def test_pins(self):
        self.assert_difference((0, 1, 3), (0, 2, 3), (0, 1, 2), ("pin", 1, 1, 2))
        self.assert_difference((0, 1, 3), (0, 2, 4), (1, 2), ("pin", 1, 1, 2))
        self.assert_difference((0, 1, 3), (-5, 1, 4), (1, 2), ("pin", 2, 3, 4))
        # The steps of the first arc differ, too, but later.
        self.assert_difference((0, 1, 3, 5), (0, 9, 3, 6), (0, 3), ("pin", 3, 5, 6))

    def test_arcs(self):
        # The steps 1, 2, -3, then 5, -2, -3.
        self.assert_difference((0, 1, 3), (0, 5, 3), (0, 2), ("arc", 0, [1, 2], [-2, 5]))
        self.assert_difference((0, 1, 3), (0, 5, 3), (0,), ("arc", 0, [-3, 1, 2], [-3, -2, 5]))
        self.assert_difference((0, 1, 3), (0, 5, 3), (2,), ("arc", 2, [-3, 1, 2], [-3, -2, 5]))
        self.assert_difference((0, 1, 3), (0, 1, 9), (0, 1), ("arc", 1, [-3, 2], [-9, 8]))
        # Only the second arc, which goes on at seat 0, has other steps.
        first, second = (0, 2, 1, 5, 3), (1, 2, 6, 5, 3)
        self.assert_difference(first, second, (1, 3), ("arc", 3, [-3, -2, 2], [-2, -2, 1]))
        # The same steps in all, but in other arcs.
        first, second = (0, 1, 3, 1, 0), (0, 2, 3, 2, 0)
        self.assert_difference(first, second, (0, 2), None)
        first, second = (0, 1, 3, 3, 0), (0, 3, 3, 1, 0)
        self.assert_difference(first, second, (0, 2), ("arc", 0, [1, 2], [0, 3]))

    def test_random_rings(self):
        kinds = {}
        for largest in (None, 1, 2, 5):
            for first, second, pins in random_cases(73, 1000, largest):
                difference = find_pinned_difference(first, second, pins)
                self.assert_same(difference, pinned_difference_of(first, second, pins))
                self.assert_same(find_pinned_difference(first, second, pins), difference)
                kind = None if difference is None else difference[0]
                kinds[kind] = kinds.get(kind, 0) + 1
        self.assertEqual(set(kinds), {None, "seats", "pin", "arc"})
        self.assertGreater(min(kinds.values()), 100)

    def test_no_difference_exactly_for_reachable_rings(self):
        for first, second, pins in random_cases(74, 500, 2):
            reachable = second in distances_from(first, pins=pins)
            self.assertEqual(find_pinned_difference(first, second, pins) is None, reachable)

    def test_lists_that_the_caller_modifies(self):
        for _ in range(2):
            difference = find_pinned_difference((0, 1, 3), (0, 5, 3), (0, 2))
            self.assert_same(difference, ("arc", 0, [1, 2], [-2, 5]))
            difference[2].clear()
            difference[3].append("x")


class MovesTest(MarkringTest):
    def assert_leads(self, first, second, pins, number):
        seats = pinned_moves(first, second, pins)
        self.assertIs(type(seats), list)
        self.assertTrue(all(type(seat) is int for seat in seats))
        self.assertLessEqual(set(seats), set(range(len(first))) - set(pins))
        self.assert_same(reflected(first, seats), second)
        self.assertEqual(len(seats), number)

    def test_example(self):
        self.assert_same(pinned_moves((0, 1, 3), (0, 2, 3), (0,)), [1])

    def test_written_out(self):
        self.assert_same(pinned_moves((0, 1, 3), (0, 1, 3), (0,)), [])
        self.assert_same(pinned_moves((0, 1, 3), (0, 1, 3), (0, 1, 2)), [])
        self.assert_same(pinned_moves((0, 1, 3), (4, 1, 3), (1,)), [0])
        # The steps of the arc 2, -3, 1 become -3, 1, 2.
        self.assert_same(pinned_moves((0, 1, 3), (-1, 1, -2), (1,)), [2, 0])
        # The steps of the arc 1, 2, -3 become -3, 2, 1.
        self.assert_leads((0, 1, 3), (0, -3, -1), (0,), 3)
        # The order of all eight steps turns around.
        first = marks_from(0, (1, 2, 3, 4, 5, 6, 7, -28))
        second = marks_from(0, (-28, 7, 6, 5, 4, 3, 2, 1))
        self.assert_leads(first, second, (0,), 28)
        # Equal steps are never exchanged: 0, 0, 1, -1 becomes 1, -1, 0, 0.
        self.assert_leads((5, 5, 5, 6), (5, 6, 5, 5), (0,), 4)

    def test_shortest_lists_by_searching_all_rings(self):
        source = random.Random(75)
        for _ in range(150):
            first = random_ring(source, source.choice([1, 3, 9]))
            pins = random_some_pins(source, len(first))
            if len(first) - len(pins) > 5:
                continue
            distances = distances_from(first, pins=pins)
            rings = source.sample(list(distances), min(20, len(distances)))
            for second in rings:
                self.assert_leads(first, second, pins, distances[second])

    def test_shortest_lists_of_eight_seats(self):
        source = random.Random(76)
        # All steps are different, so that 40320 rings are reachable.
        first = marks_from(3, (1, 20, -4, 300, 17, -333, 6, -7))
        distances = distances_from(first, pins=(5,))
        self.assertEqual(len(distances), 40320)
        for second in source.sample(list(distances), 100):
            self.assert_leads(first, second, (5,), distances[second])

    def test_reflections_of_other_seats(self):
        for first, second, pins in random_cases(77, 1500):
            if pinned_difference_of(first, second, pins) is None:
                seats = pinned_moves(first, second, pins)
                self.assert_leads(first, second, pins, len(seats))
                self.assertEqual(len(pinned_moves(second, first, pins)), len(seats))

    def test_not_reachable(self):
        number = 0
        for first, second, pins in random_cases(78, 1500):
            if pinned_difference_of(first, second, pins) is not None:
                self.assert_raises(NotReachable, {}, pinned_moves, first, second, pins)
                number += 1
        self.assertGreater(number, 300)

    def test_a_changed_mark(self):
        source = random.Random(79)
        for _ in range(500):
            first = random_ring(source, source.choice([1, 5, 1000]))
            pins = random_some_pins(source, len(first))
            second = list(reflected(first, random_seats(source, len(first), 10, pins)))
            # No step of the first ring is as large as those beside this mark.
            second[source.randrange(len(first))] += 50000
            self.assert_raises(NotReachable, {}, pinned_moves, first, tuple(second), pins)
        self.assert_raises(NotReachable, {}, pinned_moves, (0, 1, 3), (0, 1, 3, 3), (0,))
        self.assert_raises(NotReachable, {}, pinned_moves, (0, 1, 3), (9, 10, 12), (0,))

    def test_a_new_list_each_time(self):
        for first, second in (((0, 1, 3), (0, 2, 3)), ((0, 1, 3), (0, 1, 3))):
            seats = pinned_moves(first, second, (0,))
            kept = list(seats)
            seats.append("x")
            self.assert_same(pinned_moves(first, second, (0,)), kept)


class ReachableTest(MarkringTest):
    def test_all_orders_are_reachable(self):
        """The reference: all orders of all arcs are what reflections lead to."""
        source = random.Random(80)
        for _ in range(80):
            ring = random_ring(source, 4)
            pins = random_some_pins(source, len(ring))
            if len(ring) - len(pins) < 6:
                rings = pinned_rings_of(ring, pins)
                self.assertEqual(len(rings), len(set(rings)))
                self.assertEqual(set(rings), set(distances_from(ring, pins=pins)))


class PinsTest(MarkringTest):
    def assert_pins(self, first, second, pins):
        self.assertFalse(some_pins_valid(pins, len(first)), pins)
        self.assert_raises(InvalidPins, {}, find_arcs, first, pins)
        self.assert_raises(InvalidPins, {}, find_pinned_difference, first, second, pins)
        self.assert_raises(InvalidPins, {}, pinned_moves, first, second, pins)

    def test_invalid_pins(self):
        for length in range(3, 9):
            first = tuple(range(length))
            others = [first, (5,) * length, (0, 0, 1), (1,) * 8]
            for pins in invalid_pins(length):
                for second in others:
                    self.assert_pins(first, second, pins)

    def test_no_pins(self):
        self.assert_pins((0, 1, 3), (0, 1, 3), ())
        self.assert_pins((0, 1, 3), (0, 2, 4), ())
        self.assert_pins((0, 1, 3), (0, 1, 3, 3), ())

    def test_seats_of_the_first_ring(self):
        first, second = (0, 1, 3), (0, 1, 3, 4, 5)
        self.assert_pins(first, second, (3,))
        self.assert_pins(first, second, (0, 4))
        # Seat 4 is a seat of the first ring here, which is enough.
        difference = find_pinned_difference(second, first, (4,))
        self.assert_same(difference, ("seats", 5, 3))
        self.assert_raises(NotReachable, {}, pinned_moves, second, first, (4,))

    def test_all_valid_pins(self):
        source = random.Random(81)
        for length in range(3, 9):
            for _ in range(40):
                pins = random_some_pins(source, length)
                self.assertEqual(len(find_arcs((0,) * length, pins)), len(pins))


if __name__ == "__main__":
    unittest.main()
