"""Point 10: blocks that are repeated."""

import copy
import itertools
import random
import unittest

from model import BAD_TIMES, MOST_TIMES, executed
from support import (
    LARGEST_MARK,
    NO_LISTS,
    NO_SEATS,
    MarkringTest,
    marks_from,
    move_error,
    neighbors_of,
    random_ring,
    reflected,
    steps_of,
)

from markring.blocks import block_drift, block_period, first_time, is_identity, repeat_block
from markring.errors import InvalidIndex, InvalidMarks, InvalidMove, InvalidTimes


def random_case(source, most=20):
    """Return a ring and a block of up to a number of reflections."""
    marks = random_ring(source)
    block = [source.randrange(len(marks)) for _ in range(source.randint(0, most))]
    if source.random() < 0.5 and most >= 8:
        # Most blocks do not drift, but those that reflect each seat once do,
        # and so do blocks between another block and its reverse.
        half = block[:(most - len(marks)) // 2]
        block = half + source.sample(range(len(marks)), len(marks)) + half[::-1]
    return marks, block


def random_cases(seed, number, most=20):
    source = random.Random(seed)
    return [random_case(source, most) for _ in range(number)]


def rings_after(marks, block, number):
    """Return the rings after 0 to a number of blocks, each executed by itself."""
    rings = [marks]
    for _ in range(number):
        rings.append(reflected(rings[-1], block))
    return rings


def drift_of(marks, block):
    ring, number = reflected(marks, block), 1
    while steps_of(ring) != steps_of(marks):
        ring, number = reflected(ring, block), number + 1
    return number, ring[0] - marks[0]


def different_ring(length):
    """Return a ring that only blocks keep that keep all rings.

    Its differences between steps are so different that short blocks whose
    changes add up to 0 go round the ring as often to the left as to the right.
    """
    return marks_from(0, [1000 ** seat for seat in range(length)])


class RepeatTest(MarkringTest):
    def test_examples(self):
        self.assert_same(repeat_block((0, 1, 3), [0, 1, 2], 2), (9, 10, 12))
        expected = {"position": 1, "reason": "seat"}
        self.assert_raises(InvalidMove, expected, repeat_block, (0, 1, 3), [0, 3], 2)

    def test_written_out(self):
        self.assert_same(repeat_block((0, 1, 3), [0, 1, 2], 0), (0, 1, 3))
        self.assert_same(repeat_block((0, 1, 3), [0, 1, 2], 1), (4, 6, 7))
        self.assert_same(repeat_block((0, 1, 3), [0, 1, 2], 3), (13, 15, 16))
        self.assert_same(repeat_block((0, 1, 3), [], 7), (0, 1, 3))
        self.assert_same(repeat_block((0, 1, 3), [1, 1], MOST_TIMES), (0, 1, 3))
        self.assert_same(repeat_block((0, 1, 3), [1], MOST_TIMES), (0, 1, 3))
        self.assert_same(repeat_block((0, 1, 3), [1], MOST_TIMES - 1), (0, 2, 3))
        # Two blocks add 9 to all marks.
        far = 9 * 5 * 10 ** 17
        self.assert_same(repeat_block((0, 1, 3), [0, 1, 2], MOST_TIMES), (far, far + 1, far + 3))
        before = (far - 9 + 4, far - 9 + 6, far - 9 + 7)
        self.assert_same(repeat_block((0, 1, 3), [0, 1, 2], MOST_TIMES - 1), before)

    def test_each_number_of_blocks_up_to_forty(self):
        for marks, block in random_cases(101, 150):
            for times, ring in enumerate(rings_after(marks, block, 40)):
                self.assert_same(repeat_block(marks, block, times), ring)

    def test_very_many_blocks(self):
        source = random.Random(102)
        for marks, block in random_cases(103, 300):
            # Up to fifteen blocks bring eight steps back.
            rings = rings_after(marks, block, 15)
            number, change = drift_of(marks, block)
            for times in (MOST_TIMES, MOST_TIMES - 1, source.randint(0, MOST_TIMES), source.randint(0, 10 ** 6)):
                rounds, rest = divmod(times, number)
                expected = tuple(mark + rounds * change for mark in rings[rest])
                self.assert_same(repeat_block(marks, block, times), expected)
                self.assert_same(executed(marks, block, times), expected)

    def test_repetitions_add_up(self):
        source = random.Random(104)
        number = 0
        for marks, block in random_cases(105, 400, 12):
            first = source.randint(0, 60)
            middle = repeat_block(marks, block, first)
            if max(map(abs, middle)) <= LARGEST_MARK:
                second = source.choice([source.randint(0, 60), MOST_TIMES - first])
                expected = repeat_block(marks, block, first + second)
                self.assert_same(repeat_block(middle, block, second), expected)
                number += 1
        self.assertGreater(number, 150)

    def test_reversed_blocks_lead_back(self):
        source = random.Random(106)
        number = 0
        for marks, block in random_cases(107, 400, 12):
            times = source.choice([1, 2, 7, source.randint(0, 500)])
            there = repeat_block(marks, block, times)
            if max(map(abs, there)) <= LARGEST_MARK:
                self.assert_same(repeat_block(there, block[::-1], times), marks)
                self.assert_same(repeat_block(marks, block + block[::-1], times), marks)
                number += 1
        self.assertGreater(number, 150)

    def test_long_blocks(self):
        source = random.Random(108)
        for marks, block in random_cases(109, 20, 3000):
            times = source.randint(0, 30)
            self.assert_same(repeat_block(marks, block, times), rings_after(marks, block, times)[-1])

    def test_arguments_are_not_modified(self):
        for marks, block in random_cases(110, 60):
            kept = copy.deepcopy((marks, block))
            for _ in range(2):
                self.assert_same(repeat_block(marks, block, 5), rings_after(marks, block, 5)[-1])
                block_drift(marks, block)
                block_period(marks, block)
                first_time(marks, block, 0, 7)
                is_identity(len(marks), block)
                self.assert_same((marks, block), kept)


class DriftTest(MarkringTest):
    def test_examples(self):
        self.assert_same(block_drift((0, 1, 3), [0, 1, 2]), (2, 9))
        self.assert_same(block_period((0, 1, 3), [0, 1]), 3)

    def test_written_out(self):
        self.assert_same(block_drift((0, 1, 3), []), (1, 0))
        self.assert_same(block_period((0, 1, 3), []), 1)
        self.assert_same(block_drift((0, 1, 3), [1]), (2, 0))
        self.assert_same(block_period((0, 1, 3), [1]), 2)
        self.assert_same(block_drift((0, 1, 3), [1, 1]), (1, 0))
        self.assert_same(block_period((0, 1, 3), [0, 1, 2]), None)
        # Reversed, the marks become smaller.
        self.assert_same(block_drift((0, 1, 3), [2, 1, 0]), (2, -9))
        self.assert_same(block_period((0, 1, 3), [2, 1, 0]), None)
        # All steps are equal, so that no reflection changes anything.
        self.assert_same(block_drift((5, 5, 5, 5), [0, 1, 2, 3, 1]), (1, 0))
        self.assert_same(block_period((5, 5, 5, 5), [0, 1, 2, 3, 1]), 1)
        # The steps 1, 1, -2: the reflection of seat 1 exchanges equal steps.
        self.assert_same(block_drift((0, 1, 2), [1]), (1, 0))
        self.assert_same(block_drift((0, 1, 2), [2]), (2, 0))
        # A cycle of three and one of five steps.
        eight = marks_from(0, (1, 2, 3, 50, 60, 70, 80, -266))
        self.assert_same(block_drift(eight, [1, 2, 4, 5, 6, 7]), (15, 0))
        self.assert_same(block_period(eight, [1, 2, 4, 5, 6, 7]), 15)
        # The steps of the cycle of three are equal.
        eight = marks_from(0, (1, 1, 1, 50, 60, 70, 80, -263))
        self.assert_same(block_drift(eight, [1, 2, 4, 5, 6, 7]), (5, 0))

    def test_random_blocks(self):
        drifting = 0
        for marks, block in random_cases(111, 1500):
            number, change = drift_of(marks, block)
            self.assert_same(block_drift(marks, block), (number, change))
            self.assert_same(block_period(marks, block), None if change else number)
            drifting += change != 0
        self.assertGreater(drifting, 300)

    def test_periods_by_executing_blocks(self):
        kinds = {True: 0, False: 0}
        for marks, block in random_cases(112, 500, 8):
            rings = rings_after(marks, block, 40)
            period = rings.index(marks, 1) if marks in rings[1:] else None
            self.assert_same(block_period(marks, block), period)
            kinds[period is None] += 1
        self.assertGreater(min(kinds.values()), 50)

    def test_all_marks_change_alike(self):
        for marks, block in random_cases(113, 300):
            number, change = block_drift(marks, block)
            expected = tuple(mark + change for mark in marks)
            self.assert_same(repeat_block(marks, block, number), expected)
            for times in range(1, number):
                self.assertNotEqual(steps_of(repeat_block(marks, block, times)), steps_of(marks))


class FirstTimeTest(MarkringTest):
    def test_example(self):
        self.assert_same(first_time((0, 1, 3), [0, 1, 2], 0, 90), 20)

    def test_written_out(self):
        self.assert_same(first_time((0, 1, 3), [0, 1, 2], 0, 0), 0)
        self.assert_same(first_time((0, 1, 3), [0, 1, 2], 0, 4), 1)
        self.assert_same(first_time((0, 1, 3), [0, 1, 2], 0, 9), 2)
        self.assert_same(first_time((0, 1, 3), [0, 1, 2], 0, 13), 3)
        self.assert_same(first_time((0, 1, 3), [0, 1, 2], 0, 5), None)
        self.assert_same(first_time((0, 1, 3), [0, 1, 2], 0, -9), None)
        self.assert_same(first_time((0, 1, 3), [2, 1, 0], 0, -9), 2)
        self.assert_same(first_time((0, 1, 3), [2, 1, 0], 0, 9), None)
        self.assert_same(first_time((0, 1, 3), [], 2, 3), 0)
        self.assert_same(first_time((0, 1, 3), [], 2, 4), None)
        self.assert_same(first_time((0, 1, 3), [1], 1, 2), 1)
        self.assert_same(first_time((0, 1, 3), [1], 0, 0), 0)
        self.assert_same(first_time((0, 1, 3), [1], 0, 2), None)
        # Far away, also later than 10 ** 18 blocks.
        self.assert_same(first_time((0, 1, 3), [0, 1, 2], 1, 9 * 10 ** 40 + 1), 2 * 10 ** 40)
        self.assert_same(first_time((0, 1, 3), [0, 1, 2], 1, 9 * 10 ** 40 + 6), 2 * 10 ** 40 + 1)
        self.assert_same(first_time((0, 1, 3), [0, 1, 2], 1, 9 * 10 ** 40 + 2), None)
        self.assert_same(first_time((0, 1, 3), [0, 1, 2], 1, -9 * 10 ** 40 + 1), None)

    def test_the_earlier_one_of_two_times(self):
        # Later in a round, the mark is already where another round leads to.
        found = 0
        for marks, block in random_cases(114, 250, 14):
            number, change = drift_of(marks, block)
            rings = rings_after(marks, block, 6 * number)
            for seat, ring in itertools.product(range(len(marks)), rings):
                times = [time for time, other in enumerate(rings) if other[seat] == ring[seat]]
                self.assert_same(first_time(marks, block, seat, ring[seat]), times[0])
                found += change != 0 and len(times) > 1
        self.assertGreater(found, 100)

    def test_by_executing_blocks(self):
        source = random.Random(115)
        kinds = {True: 0, False: 0}
        for marks, block in random_cases(116, 250):
            # A mark near the beginning appears soon if ever, for steps so small.
            if max(map(abs, marks)) > 5:
                continue
            seat = source.randrange(len(marks))
            rings = rings_after(marks, block, 1500)
            seen = [ring[seat] for ring in rings]
            for mark in range(-40, 41):
                time = seen.index(mark) if mark in seen else None
                self.assert_same(first_time(marks, block, seat, mark), time)
                kinds[time is None] += 1
        self.assertGreater(min(kinds.values()), 300)

    def test_far_away_marks(self):
        source = random.Random(117)
        for marks, block in random_cases(118, 500):
            number, change = drift_of(marks, block)
            seat, times = source.randrange(len(marks)), source.randint(0, MOST_TIMES)
            mark = executed(marks, block, times)[seat]
            # The first time of the mark of each ring of a round.
            rings = rings_after(marks, block, number - 1)
            found = []
            for time, ring in enumerate(rings):
                if change == 0 and ring[seat] == mark:
                    found.append(time)
                if change != 0 and (mark - ring[seat]) % change == 0:
                    found.append(time + number * ((mark - ring[seat]) // change))
            expected = min(time for time in found if time >= 0)
            self.assertLessEqual(expected, times)
            self.assert_same(first_time(marks, block, seat, mark), expected)
            if expected <= MOST_TIMES:
                self.assert_same(repeat_block(marks, block, expected)[seat], mark)

    def test_agreement_with_drift_and_period(self):
        for marks, block in random_cases(119, 300):
            number, change = block_drift(marks, block)
            self.assertEqual(block_period(marks, block), number if change == 0 else None)
            for seat, mark in enumerate(marks):
                self.assert_same(first_time(marks, block, seat, mark), 0)
                time = first_time(marks, block, seat, mark + change)
                self.assertLessEqual(time, number)
                self.assert_same(repeat_block(marks, block, time)[seat], mark + change)


class IdentityTest(MarkringTest):
    def test_example(self):
        self.assert_same([is_identity(3, [1, 1]), is_identity(3, [0])], [True, False])

    def test_written_out(self):
        for length in range(3, 9):
            self.assert_same(is_identity(length, []), True)
            for seat in range(length):
                following = (seat + 1) % length
                self.assert_same(is_identity(length, [seat]), False)
                self.assert_same(is_identity(length, [seat, seat]), True)
                self.assert_same(is_identity(length, [seat, following] * 2), False)
                self.assert_same(is_identity(length, [seat, following] * 3), True)
                opposite = (seat + 2) % length
                # Seats that do not lie beside each other may be reflected in any order.
                self.assert_same(is_identity(length, [seat, opposite] * 2), length > 3)
        # All steps are as before, but the marks are not.
        self.assert_same(is_identity(3, [0, 1, 2] * 2), False)
        self.assert_same(is_identity(3, [0, 1, 2, 1] * 2), False)

    def test_all_short_blocks(self):
        for length, most in ((3, 7), (4, 6), (5, 5)):
            ring = different_ring(length)
            for number in range(most + 1):
                for block in itertools.product(range(length), repeat=number):
                    expected = reflected(ring, block) == ring
                    self.assert_same(is_identity(length, list(block)), expected)

    def test_random_blocks(self):
        source = random.Random(120)
        kinds = {True: 0, False: 0}
        for _ in range(1500):
            length = source.randint(3, 8)
            ring = different_ring(length)
            block = [source.randrange(length) for _ in range(source.randint(0, 20))]
            if source.random() < 0.5:
                # Words that change nothing, put into each other.
                block = []
                for _ in range(source.randint(1, 4)):
                    seat = source.randrange(length)
                    word = source.choice([[seat] * 2, [seat, (seat + 1) % length] * 3])
                    place = source.randint(0, len(block))
                    block[place:place] = word
            expected = reflected(ring, block) == ring
            self.assert_same(is_identity(length, block), expected)
            kinds[expected] += 1
        self.assertGreater(min(kinds.values()), 300)

    def test_marks_that_a_block_keeps_by_chance(self):
        # The block changes other rings than those of equal marks.
        for length in range(3, 9):
            block = list(range(length))
            self.assert_same(repeat_block((4,) * length, block, 1), (4,) * length)
            self.assert_same(is_identity(length, block), False)


class ErrorsTest(MarkringTest):
    def assert_first_error(self, error, attributes, marks, block):
        """Check the error of all functions, whatever the arguments after the block are."""
        for times in (0, 5, MOST_TIMES, -1, True, None):
            self.assert_raises(error, attributes, repeat_block, marks, block, times)
        self.assert_raises(error, attributes, block_drift, marks, block)
        self.assert_raises(error, attributes, block_period, marks, block)
        for seat in (0, 2, -1, 8, False, "0"):
            self.assert_raises(error, attributes, first_time, marks, block, seat, 5)

    def assert_move(self, marks, block, position):
        self.assertEqual(move_error(block, len(marks), ()), (position, "seat"))
        expected = {"position": position, "reason": "seat"}
        self.assert_first_error(InvalidMove, expected, marks, block)

    def test_marks_before_blocks(self):
        for block in ([], [0, 1], [99], None, (0,)):
            self.assert_first_error(InvalidMarks, {"position": 2}, (0, 1), block)
            self.assert_first_error(InvalidMarks, {"position": 1}, (0, True, 3), block)
            self.assert_first_error(InvalidMarks, {"position": 0}, [0, 1, 3], block)

    def test_no_list(self):
        for value in NO_LISTS:
            self.assert_move((0, 1, 3), value, 0)

    def test_no_seats(self):
        for bad in NO_SEATS:
            for position in range(4):
                block = [7, 0, 3]
                block.insert(position, bad)
                self.assert_move((0, 1, 3, 5, 4, 2, 2, 1), block, position)
        for length in range(3, 9):
            self.assert_move((0,) * length, [length], 0)
            self.assert_move((0,) * length, [length - 1, 0, length, -1], 2)

    def test_random_blocks(self):
        source = random.Random(121)
        for marks, block in random_cases(122, 200):
            for _ in range(source.randint(1, 3)):
                bad = source.choice([*NO_SEATS, len(marks)])
                block.insert(source.randint(0, len(block)), bad)
            self.assert_move(marks, block, move_error(block, len(marks), ())[0])

    def test_times(self):
        for times in BAD_TIMES:
            for block in ([], [0], [2, 1, 0]):
                self.assert_raises(InvalidTimes, {}, repeat_block, (0, 1, 3), block, times)
        for times in (0, 1, MOST_TIMES):
            self.assert_same(repeat_block((0, 1, 3), [], times), (0, 1, 3))

    def test_seats(self):
        for marks, block in random_cases(123, 30):
            for seat in NO_SEATS + [len(marks), len(marks) + 1, -len(marks)]:
                self.assert_raises(InvalidIndex, {}, first_time, marks, block, seat, marks[0])


class NeighborsTest(MarkringTest):
    """Blocks of one seat agree with the definition of a reflection."""

    def test_one_seat(self):
        source = random.Random(124)
        for _ in range(100):
            marks = random_ring(source)
            for seat, ring in enumerate(neighbors_of(marks)):
                self.assert_same(repeat_block(marks, [seat], 1), ring)
                self.assert_same(executed(marks, [seat], 1), ring)


if __name__ == "__main__":
    unittest.main()
