"""Point 11: hidden rings and observations."""

import collections
import copy
import random
import unittest

from support import (
    LARGEST_MARK,
    NO_INTEGERS,
    NO_SEATS,
    MarkringTest,
    arcs_of,
    invalid_pins,
    invalid_rings,
    marks_from,
    neighbors_of,
    pinned_rings_of,
    random_ring,
    random_some_pins,
)

from markring.errors import (
    Contradiction,
    InvalidIndex,
    InvalidMarks,
    InvalidPins,
    InvalidSign,
    TooManyRings,
)
from markring.inference import HiddenRing

BAD_SIGNS = NO_INTEGERS + [-2, 2, 3, 10 ** 30, -10 ** 30]


def sign_at(ring, seat):
    """Return the sign of point 11 by comparing with the reflected ring."""
    changed = neighbors_of(ring)[seat]
    return (changed[seat] > ring[seat]) - (changed[seat] < ring[seat])


class Listed:
    """What a hidden ring promises, by listing all candidates."""

    def __init__(self, marks, pins):
        self.rings = sorted(pinned_rings_of(marks, pins))
        self.seats = range(len(marks))
        self.accepted = []

    def remaining(self, kind, seat, value):
        if kind == "mark":
            return [ring for ring in self.rings if ring[seat] == value]
        return [ring for ring in self.rings if sign_at(ring, seat) == value]

    def accept(self, kind, seat, value):
        self.rings = self.remaining(kind, seat, value)
        self.accepted.append((kind, seat, value))

    def marks_at(self, seat):
        return sorted({ring[seat] for ring in self.rings})

    def known(self):
        columns = [set(column) for column in zip(*self.rings)]
        return tuple(column.pop() if len(column) == 1 else None for column in columns)

    def pair(self, seat):
        first = self.rings[0]
        others = [ring for ring in self.rings if ring[seat] != first[seat]]
        return (first, others[0]) if others else None

    def best(self):
        worst = {}
        for seat in self.seats:
            counts = collections.Counter(ring[seat] for ring in self.rings)
            worst[seat] = max(counts.values())
        return min(self.seats, key=lambda seat: (worst[seat], seat))


def number_of_rings(marks, pins):
    number = 1
    for arc in arcs_of(marks, pins):
        # Each step goes to one of the places that are left for it.
        for place, step in enumerate(arc, start=1):
            number = number * place // arc[:place].count(step)
    return number


def small_cases(seed, number, most=300):
    """Return rings with pinned seats to which few rings are reachable."""
    source = random.Random(seed)
    cases = []
    while len(cases) < number:
        marks = random_ring(source, source.choice([1, 2, 3, 9, 1000, LARGEST_MARK]))
        pins = random_some_pins(source, len(marks))
        if len(marks) - len(pins) < 7 and number_of_rings(marks, pins) <= most:
            cases.append((marks, pins))
    return cases


def observe(hidden, kind, seat, value):
    return hidden.observe_mark(seat, value) if kind == "mark" else hidden.observe_sign(seat, value)


def random_observation(source, listed):
    """Return an observation, which may contradict the others."""
    seat = source.choice(list(listed.seats))
    if source.random() < 0.5:
        return "sign", seat, source.choice([-1, 0, 1])
    marks = listed.marks_at(seat)
    others = [marks[0] - 1, marks[-1] + 1, 10 ** 30, 0]
    return "mark", seat, source.choice(marks if source.random() < 0.7 else others)


class HiddenTest(MarkringTest):
    def assert_state(self, hidden, listed):
        """Compare all that a hidden ring tells, twice, and modify the lists."""
        for _ in range(2):
            candidates, history = hidden.candidates(), hidden.history()
            self.assert_same(candidates, listed.rings)
            self.assert_same(history, listed.accepted)
            candidates.reverse()
            candidates.append("x")
            history.clear()
            for seat in listed.seats:
                marks = hidden.marks_at(seat)
                self.assert_same(marks, listed.marks_at(seat))
                marks.clear()
                self.assert_same(hidden.differing_pair(seat), listed.pair(seat))
            self.assert_same(hidden.known_marks(), listed.known())
            self.assert_same(hidden.best_seat(), listed.best())


class ExamplesTest(HiddenTest):
    def test_examples(self):
        hidden = HiddenRing((0, 1, 3), (0, 2))
        self.assert_raises(Contradiction, {}, hidden.observe_mark, 0, 5)
        self.assert_same(hidden.candidates(), [(0, 1, 3), (0, 2, 3)])
        self.assert_same(hidden.marks_at(1), [1, 2])
        self.assert_same(hidden.known_marks(), (0, None, 3))
        self.assert_same(hidden.differing_pair(1), ((0, 1, 3), (0, 2, 3)))
        self.assert_same(hidden.best_seat(), 1)
        self.assert_same(hidden.observe_mark(1, 2), 1)
        self.assert_same(hidden.history(), [("mark", 1, 2)])
        hidden = HiddenRing((0, 1, 3), (0, 2))
        self.assert_same(hidden.observe_sign(1, 1), 1)
        self.assert_same(hidden.history(), [("sign", 1, 1)])

    def test_written_out(self):
        hidden = HiddenRing((0, 1, 3), (0,))
        rings = [(0, -3, -2), (0, -3, -1), (0, 1, -2), (0, 1, 3), (0, 2, -1), (0, 2, 3)]
        self.assert_same(hidden.candidates(), rings)
        self.assert_same(hidden.known_marks(), (0, None, None))
        self.assert_same(hidden.best_seat(), 1)
        self.assert_same(hidden.differing_pair(0), None)
        self.assert_same(hidden.differing_pair(1), ((0, -3, -2), (0, 1, -2)))
        self.assert_same(hidden.differing_pair(2), ((0, -3, -2), (0, -3, -1)))
        # A pinned seat is not reflected, but its sign can be observed:
        # from 0 to -5, -4, -1, 4, 1, 5.
        self.assert_same(hidden.observe_sign(0, 1), 3)
        self.assert_same(hidden.candidates(), [(0, 1, 3), (0, 2, -1), (0, 2, 3)])
        self.assert_raises(Contradiction, {}, hidden.observe_sign, 0, 0)
        self.assert_raises(Contradiction, {}, hidden.observe_mark, 2, -2)
        self.assert_same(hidden.best_seat(), 1)
        self.assert_same(hidden.observe_mark(2, 3), 2)
        self.assert_same(hidden.known_marks(), (0, None, 3))
        self.assert_same(hidden.observe_mark(2, 3), 2)
        # Reflecting seat 1 of (0, 1, 3) leads to 2, of (0, 2, 3) to 1.
        self.assert_same(hidden.observe_sign(1, -1), 1)
        self.assert_same(hidden.known_marks(), (0, 2, 3))
        self.assert_same(hidden.best_seat(), 0)
        observations = [("sign", 0, 1), ("mark", 2, 3), ("mark", 2, 3), ("sign", 1, -1)]
        self.assert_same(hidden.history(), observations)

    def test_a_mark_that_is_kept(self):
        # The steps 1, 1, -1, -1.
        hidden = HiddenRing((0, 1, 2, 1), (0,))
        self.assert_same(len(hidden.candidates()), 6)
        self.assert_same(hidden.observe_sign(1, 0), 2)
        self.assert_same(hidden.candidates(), [(0, -1, -2, -1), (0, 1, 2, 1)])
        self.assert_same(hidden.known_marks(), (0, None, None, None))
        self.assert_same(hidden.observe_sign(2, -1), 1)

    def test_ascending_order_of_rings(self):
        # In the order of the arc of seat 1, (0, 1, -2) would be the second ring.
        hidden = HiddenRing((0, 1, 3), (1,))
        rings = [(-1, 1, -2), (-1, 1, 2), (0, 1, -2), (0, 1, 3), (4, 1, 2), (4, 1, 3)]
        self.assert_same(hidden.candidates(), rings)
        self.assert_same(hidden.differing_pair(0), ((-1, 1, -2), (0, 1, -2)))
        self.assert_same(hidden.differing_pair(2), ((-1, 1, -2), (-1, 1, 2)))
        found = 0
        for marks, pins in small_cases(131, 200):
            rings = pinned_rings_of(marks, pins)
            self.assert_same(HiddenRing(marks, pins).candidates(), sorted(rings))
            found += rings != sorted(rings)
        self.assertGreater(found, 30)

    def test_all_seats_pinned(self):
        for length in range(3, 9):
            marks = tuple(range(length))
            hidden = HiddenRing(marks, marks)
            self.assert_state(hidden, Listed(marks, marks))
            self.assert_same(hidden.known_marks(), marks)
            self.assert_same(hidden.best_seat(), 0)


class ObservationsTest(HiddenTest):
    def test_random_observations(self):
        source = random.Random(132)
        kinds = {"accepted": 0, "contradiction": 0}
        for marks, pins in small_cases(133, 160):
            hidden, listed = HiddenRing(marks, pins), Listed(marks, pins)
            self.assert_state(hidden, listed)
            for _ in range(6):
                observation = random_observation(source, listed)
                remaining = listed.remaining(*observation)
                if remaining:
                    listed.accept(*observation)
                    self.assert_same(observe(hidden, *observation), len(remaining))
                    kinds["accepted"] += 1
                else:
                    self.assert_raises(Contradiction, {}, observe, hidden, *observation)
                    kinds["contradiction"] += 1
                self.assert_state(hidden, listed)
        self.assertGreater(min(kinds.values()), 150)

    def test_observations_of_one_candidate(self):
        source = random.Random(134)
        for marks, pins in small_cases(135, 60):
            listed = Listed(marks, pins)
            ring = source.choice(listed.rings)
            hidden = HiddenRing(marks, pins)
            for seat in source.sample(list(listed.seats), 2):
                listed.accept("sign", seat, sign_at(ring, seat))
                self.assert_same(hidden.observe_sign(seat, sign_at(ring, seat)), len(listed.rings))
            while len(listed.rings) > 1:
                # The best seat tells candidates apart while there are several.
                seat, before = hidden.best_seat(), len(listed.rings)
                listed.accept("mark", seat, ring[seat])
                self.assert_same(hidden.observe_mark(seat, ring[seat]), len(listed.rings))
                self.assertLess(len(listed.rings), before)
                self.assert_state(hidden, listed)
            self.assert_same(hidden.candidates(), [ring])
            self.assert_same(hidden.known_marks(), ring)

    def test_rings_beyond_the_limits(self):
        marks, pins = (0, 1000000, 0, -1000000, 0), (0,)
        hidden, listed = HiddenRing(marks, pins), Listed(marks, pins)
        self.assert_same(hidden.candidates()[0], (0, -1000000, -2000000, -2000000, -1000000))
        listed.accept("mark", 2, -2000000)
        self.assert_same(hidden.observe_mark(2, -2000000), len(listed.rings))
        self.assert_state(hidden, listed)

    def test_hidden_rings_do_not_influence_each_other(self):
        first, second = HiddenRing((0, 1, 3), (0,)), HiddenRing((0, 1, 3), (0,))
        third = HiddenRing((0, 1, 2, 1), (0,))
        listed, other = Listed((0, 1, 3), (0,)), Listed((0, 1, 2, 1), (0,))
        first.observe_mark(1, 2)
        first.observe_sign(0, 1)
        self.assert_state(second, listed)
        self.assert_state(third, other)
        listed.accept("mark", 1, -3)
        second.observe_mark(1, -3)
        self.assert_state(second, listed)
        self.assert_same(first.candidates(), [(0, 2, -1), (0, 2, 3)])

    def test_arguments_are_not_modified(self):
        marks, pins = (0, 1, 3, 5), (0, 2)
        kept = copy.deepcopy((marks, pins))
        hidden = HiddenRing(marks, pins)
        hidden.observe_mark(1, 1)
        self.assert_same((marks, pins), kept)


class ErrorsTest(HiddenTest):
    def test_marks_before_pins(self):
        for pins in ((0,), (), (5, 5), None, [0]):
            for marks, position in invalid_rings():
                self.assert_raises(InvalidMarks, {"position": position}, HiddenRing, marks, pins)

    def test_pins(self):
        for length in range(3, 9):
            # Too many rings are reachable from some of these rings.
            for marks in ((0,) * length, tuple(seat * seat for seat in range(length))):
                for pins in invalid_pins(length):
                    self.assert_raises(InvalidPins, {}, HiddenRing, marks, pins)
        self.assert_raises(InvalidPins, {}, HiddenRing, (0, 1, 3), ())

    def test_too_many_rings(self):
        # No ring has exactly 2,000 reachable rings: 1,680 and 2,520 are the
        # numbers of orders beside it.
        marks = marks_from(0, (1, 1, 1, 1, 2, 3, 4, -13))
        hidden = HiddenRing(marks, (0,))
        self.assert_same(len(hidden.candidates()), 1680)
        self.assert_same(hidden.candidates(), sorted(pinned_rings_of(marks, (0,))))
        for steps, pins, number in (
            ((1, 1, 2, 2, 3, 3, -6, -6), (0,), 2520),
            ((-21, 1, 2, 3, 4, 5, 6, 0), (0,), 40320),
            ((-21, 1, 2, 3, 4, 5, 6, 0), (3, 4), 5040),
            ((-21, 1, 2, 3, 4, 5, 6), (6,), 5040),
            ((-6, 1, 1, 2, 2, 5, -5), (1,), 1260),
            ((-21, 1, 2, 3, 4, 5, 6, 0), (0, 2), 1440),
            ((-21, 1, 2, 3, 4, 5, 6, 0), (0, 1, 2), 720),
            ((-1, 1, 0, 0, 2, -2), (2,), 360),
            ((-15, 1, 2, 3, 4, 5), (2,), 720),
        ):
            marks = marks_from(0, steps)
            self.assertEqual(number_of_rings(marks, pins), number)
            if number > 2000:
                self.assert_raises(TooManyRings, {}, HiddenRing, marks, pins)
            else:
                self.assertEqual(len(HiddenRing(marks, pins).candidates()), number)

    def test_all_possible_numbers(self):
        """All numbers of reachable rings, of which 2,000 is none."""
        source = random.Random(136)
        seen = set()
        for _ in range(3000):
            length = source.choice([8, 8, 8, 7, 6])
            steps = [source.randint(1, source.choice([2, 3, 4, 6, 50])) for _ in range(length - 1)]
            marks = marks_from(0, [*steps, -sum(steps)])
            pins = random_some_pins(source, length, 3)
            number = number_of_rings(marks, pins)
            if number in seen:
                continue
            seen.add(number)
            if number > 2000:
                self.assert_raises(TooManyRings, {}, HiddenRing, marks, pins)
            else:
                self.assertEqual(len(HiddenRing(marks, pins).candidates()), number)
        self.assertEqual([number for number in seen if 1680 < number < 2520], [])
        self.assertGreater(len(seen), 25)

    def assert_nothing_changes(self, hidden, listed, error, attributes, name, *values):
        self.assert_raises(error, attributes, getattr(hidden, name), *values)
        self.assert_same(hidden.candidates(), listed.rings)
        self.assert_same(hidden.history(), listed.accepted)

    def test_seats(self):
        for marks, pins in small_cases(137, 12, 60):
            hidden, listed = HiddenRing(marks, pins), Listed(marks, pins)
            for _ in range(2):
                for seat in NO_SEATS + [len(marks), len(marks) + 1, -len(marks)]:
                    for value in [0, 1, -1, 2, 10 ** 30, *NO_INTEGERS]:
                        for name in ("observe_mark", "observe_sign"):
                            self.assert_nothing_changes(hidden, listed, InvalidIndex, {}, name, seat, value)
                    for name in ("marks_at", "differing_pair"):
                        self.assert_nothing_changes(hidden, listed, InvalidIndex, {}, name, seat)
                listed.accept("mark", 0, marks[0])
                hidden.observe_mark(0, marks[0])
            self.assert_state(hidden, listed)

    def test_marks_and_signs(self):
        for marks, pins in small_cases(138, 12, 60):
            hidden, listed = HiddenRing(marks, pins), Listed(marks, pins)
            for seat in listed.seats:
                for mark in NO_INTEGERS:
                    expected = {"position": 0}
                    self.assert_nothing_changes(
                        hidden, listed, InvalidMarks, expected, "observe_mark", seat, mark)
                for mark in (10 ** 30, -10 ** 30, LARGEST_MARK * 100):
                    self.assert_nothing_changes(
                        hidden, listed, Contradiction, {}, "observe_mark", seat, mark)
                for sign in BAD_SIGNS:
                    self.assert_nothing_changes(hidden, listed, InvalidSign, {}, "observe_sign", seat, sign)
            self.assert_state(hidden, listed)


if __name__ == "__main__":
    unittest.main()
