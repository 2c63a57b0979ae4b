"""Point 3: steps, the ring built from steps, and the modulus."""

import random
import unittest

from support import (
    LARGEST_MARK,
    LARGEST_STEP,
    NO_INTEGERS,
    NO_TUPLES,
    MarkringTest,
    marks_from,
    modulus_of,
    random_rings,
    ring_error,
    steps_error,
    steps_of,
)

from markring.errors import InvalidMarks, InvalidSteps
from markring.rings import build_ring, find_modulus, find_steps

BAD_STEPS = NO_INTEGERS + [LARGEST_STEP + 1, -LARGEST_STEP - 1, 10 ** 30]


class StepsTest(MarkringTest):
    def test_examples(self):
        self.assert_same(find_steps((0, 1, 3)), (1, 2, -3))
        self.assert_raises(InvalidMarks, {"position": 2}, find_steps, (0, 1))

    def test_written_out(self):
        self.assert_same(find_steps((0, 0, 0)), (0, 0, 0))
        self.assert_same(find_steps((0, 2, 0, -2)), (2, -2, -2, 2))
        self.assert_same(find_steps((5, 1, 4, 1, -5, 9, 2, 6)), (-4, 3, -3, -6, 14, -7, 4, -1))
        largest = (LARGEST_MARK, -LARGEST_MARK, LARGEST_MARK)
        self.assert_same(find_steps(largest), (-2000000, 2000000, 0))

    def test_random_rings(self):
        for marks in random_rings(31, 500):
            self.assert_same(find_steps(marks), steps_of(marks))
            self.assertEqual(sum(find_steps(marks)), 0)

    def test_repeated_calls(self):
        for marks in random_rings(32, 50):
            self.assert_same(find_steps(marks), find_steps(marks))


class ModulusTest(MarkringTest):
    def test_example(self):
        self.assert_same(find_modulus((0, 2, 0, -2)), 4)

    def test_written_out(self):
        self.assert_same(find_modulus((0, 1, 3)), 1)
        self.assert_same(find_modulus((7, 7, 7)), 0)
        self.assert_same(find_modulus((-3,) * 8), 0)
        # The steps 4, 4, -8 have the differences 0 and 12.
        self.assert_same(find_modulus((0, 4, 8)), 12)
        # The steps 5, -1, -7, 3 have the differences 6, 12, 2, 6, 4, 10.
        self.assert_same(find_modulus((0, 5, 4, -3)), 2)
        # The steps 2000000, -2000000, 0 have the differences 4000000 and 2000000.
        self.assert_same(find_modulus((-LARGEST_MARK, LARGEST_MARK, -LARGEST_MARK)), 2000000)

    def test_random_rings(self):
        for marks in random_rings(33, 500):
            self.assert_same(find_modulus(marks), modulus_of(marks))
            self.assert_same(find_modulus(marks), find_modulus(marks))

    def test_random_multiples(self):
        source = random.Random(34)
        for _ in range(300):
            factor = source.randint(1, 30)
            marks = tuple(factor * source.randint(-9, 9) for _ in range(source.randint(3, 8)))
            self.assert_same(find_modulus(marks), modulus_of(marks))

    def test_largest_number_that_divides_all_differences(self):
        source = random.Random(35)
        for _ in range(200):
            marks = tuple(2 * source.randint(-6, 6) for _ in range(source.randint(3, 4)))
            steps = steps_of(marks)
            shared = [
                number
                for number in range(1, 100)
                if all((one - other) % number == 0 for one in steps for other in steps)
            ]
            expected = 0 if len(set(steps)) == 1 else max(shared)
            self.assert_same(find_modulus(marks), expected)


class BuildTest(MarkringTest):
    def test_examples(self):
        self.assert_same(build_ring(0, (1, 2, -3)), (0, 1, 3))
        self.assert_raises(InvalidSteps, {"position": 2}, build_ring, 0, (1, 2))

    def test_random_rings(self):
        for marks in random_rings(36, 500):
            steps = steps_of(marks)
            self.assert_same(build_ring(marks[0], steps), marks)
            self.assert_same(build_ring(marks[0], find_steps(marks)), marks)
            self.assert_same(build_ring(marks[0], steps), build_ring(marks[0], steps))

    def test_largest_steps_and_marks(self):
        steps = (2000000, -2000000, 0)
        self.assert_same(build_ring(-1000000, steps), (-1000000, 1000000, -1000000))
        steps = (-2000000, 2000000, 0, 0)
        self.assert_same(build_ring(1000000, steps), (1000000, -1000000, 1000000, 1000000))
        self.assert_same(build_ring(1000000, (0,) * 8), (1000000,) * 8)
        self.assert_same(build_ring(-1000000, (0,) * 3), (-1000000,) * 3)


class InvalidStepsTest(MarkringTest):
    def assert_steps(self, steps, position):
        self.assertEqual(steps_error(steps), position, steps)
        # InvalidSteps comes first, whatever the first mark is.
        for first in (0, -1000000, 1000001, None, True, "0", [0]):
            self.assert_raises(InvalidSteps, {"position": position}, build_ring, first, steps)

    def test_no_tuple(self):
        for value in NO_TUPLES:
            self.assert_steps(value, 0)
        self.assert_steps([1, 2, -3], 0)

    def test_an_invalid_step(self):
        for length in range(1, 12):
            for position in range(min(length, 8)):
                for bad in BAD_STEPS:
                    steps = [0] * length
                    steps[position] = bad
                    self.assert_steps(tuple(steps), position)

    def test_the_first_of_several_invalid_steps(self):
        self.assert_steps((0, None, "x", 0), 1)
        self.assert_steps((1, 2000001, True), 1)
        self.assert_steps((0, 0, -2000001, 2000001), 2)
        self.assert_steps((5, 5, False), 2)

    def test_too_many(self):
        self.assert_steps((0,) * 9, 8)
        self.assert_steps((1,) * 9, 8)
        self.assert_steps((0,) * 8 + (None,), 8)
        self.assert_steps((0,) * 9 + (None,), 8)
        self.assert_steps((1, -1) * 10, 8)
        self.assert_steps((0,) * 7 + (None,) + (0,) * 3, 7)

    def test_too_few(self):
        self.assert_steps((), 0)
        self.assert_steps((0,), 1)
        self.assert_steps((5,), 1)
        self.assert_steps((1, -1), 2)
        self.assert_steps((0, 0), 2)
        self.assert_steps((1, 2), 2)

    def test_sum_that_is_not_0(self):
        for length in range(3, 9):
            for excess in (1, -1, 2000000, -2000000):
                self.assert_steps((0,) * (length - 1) + (excess,), length)
                self.assert_steps((excess,) + (0,) * (length - 1), length)
        self.assert_steps((1, 2, 3), 3)
        self.assert_steps((1, 2, -4), 3)

    def test_random_steps(self):
        source = random.Random(37)
        for _ in range(1500):
            length = source.randint(0, 10)
            steps = [source.randint(-3, 3) for _ in range(length)]
            if length and source.random() < 0.5:
                steps[-1] = -sum(steps[:-1])
            if length and source.random() < 0.3:
                steps[source.randrange(length)] = source.choice(BAD_STEPS)
            steps = tuple(steps)
            position = steps_error(steps)
            if position is None:
                self.assert_same(build_ring(4, steps), marks_from(4, steps))
            else:
                self.assert_steps(steps, position)


class InvalidResultTest(MarkringTest):
    def assert_marks(self, first, steps, position):
        self.assertIsNone(steps_error(steps))
        self.assert_raises(InvalidMarks, {"position": position}, build_ring, first, steps)

    def test_first_mark_that_is_not_an_integer(self):
        for bad in NO_INTEGERS:
            self.assert_marks(bad, (1, 2, -3), 0)
            self.assert_marks(bad, (2000000, 0, 0, -2000000), 0)

    def test_first_mark_that_is_too_large(self):
        for bad in (1000001, -1000001, 10 ** 30):
            self.assert_marks(bad, (0, 0, 0), 0)
            self.assert_marks(bad, (1, 2, -3), 0)
            self.assert_marks(bad, (-1, 1, -2, 2), 0)

    def test_marks_that_become_too_large(self):
        self.assert_marks(0, (600000, 600000, -1200000), 2)
        self.assert_marks(1000000, (1, -1, 0), 1)
        self.assert_marks(-1000000, (0, -1, 1), 2)
        self.assert_marks(-1000000, (2000000, 1, -2000000, -1), 2)
        for length in range(3, 9):
            for position in range(1, length):
                for sign in (1, -1):
                    steps = [0] * length
                    steps[position - 1] = sign
                    steps[-1] -= sign
                    self.assert_marks(sign * 1000000, tuple(steps), position)

    def test_random_results(self):
        source = random.Random(38)
        for _ in range(1000):
            steps = [source.randint(-700000, 700000) for _ in range(source.randint(2, 7))]
            steps = tuple(steps) + (-sum(steps),)
            if steps_error(steps) is not None:
                continue
            first = source.randint(-1100000, 1100000)
            expected = marks_from(first, steps)
            position = ring_error(expected)
            if position is None:
                self.assert_same(build_ring(first, steps), expected)
            else:
                self.assert_marks(first, steps, position)


if __name__ == "__main__":
    unittest.main()
