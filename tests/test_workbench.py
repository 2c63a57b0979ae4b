"""Point 12: workbenches and their operations."""

import random
import unittest

from model import (
    BAD_AMOUNTS,
    BAD_TIMES,
    LARGEST_AMOUNT,
    MOST_TIMES,
    Model,
    call,
    everything_of,
    random_change,
    random_operation,
    small_marks,
)
from support import (
    LARGEST_MARK,
    NO_LISTS,
    NO_SEATS,
    MarkringTest,
    difference_of,
    invalid_pins,
    invalid_rings,
    marks_from,
    move_error,
    pinned_difference_of,
    random_pins,
    random_ring,
    random_rings,
    random_seats,
    reflected,
    steps_of,
)

from markring.errors import (
    InvalidAmount,
    InvalidMarks,
    InvalidMove,
    InvalidPins,
    InvalidTimes,
)
from markring.reachability import find_difference
from markring.pinned import find_pinned_difference
from markring.workbench import Workbench


class WorkbenchTest(MarkringTest):
    def assert_state(self, workbench, model):
        """Compare what can be seen, without what undo and redo would do."""
        marks, pins = model.state()
        self.assert_same(workbench.ring(), marks)
        self.assert_same(workbench.pinned(), pins)
        self.assert_same(workbench.operations(), model.words())

    def assert_complete_state(self, workbench, model):
        self.assert_same(everything_of(workbench), model.everything())
        self.assert_state(workbench, model)

    def assert_execution(self, workbench, model, operation):
        """Execute an operation on both and compare the result or the error."""
        error = model.error(operation)
        if error is not None:
            self.assert_raises(*error, call, workbench, operation)
        else:
            self.assert_same(call(workbench, operation), model.execute(operation))
        self.assert_state(workbench, model)
        return error is None


class ExamplesTest(WorkbenchTest):
    def test_examples(self):
        self.assert_same(Workbench((0, 1, 3)).reflect(1), (0, 2, 3))
        workbench = Workbench((0, 1, 3))
        workbench.pin((1,))
        expected = {"position": 0, "reason": "pinned"}
        self.assert_raises(InvalidMove, expected, workbench.reflect, 1)
        self.assert_same(Workbench((0, 1, 3)).shift(5), (5, 6, 8))
        self.assert_same(Workbench((0, 1, 3)).turn(1), (1, 3, 0))
        self.assert_same(Workbench((0, 1, 3)).repeat([0, 1, 2], 2), (9, 10, 12))
        self.assert_same(Workbench((0, 1, 3)).ring(), (0, 1, 3))
        self.assert_same(Workbench((0, 1, 3)).reaches((0, 2, 3)), True)

    def test_examples_of_undo_and_redo(self):
        workbench = Workbench((0, 1, 3))
        workbench.shift(5)
        found = [workbench.undo(), workbench.ring(), workbench.undo()]
        self.assert_same(found, [True, (0, 1, 3), False])
        workbench = Workbench((0, 1, 3))
        workbench.shift(5)
        self.assert_same(workbench.operations(), ["shift"])
        workbench.undo()
        self.assert_same([workbench.redo(), workbench.ring()], [True, (5, 6, 8)])

    def test_example_of_turned_pins(self):
        workbench = Workbench((0, 1, 3))
        self.assert_same(workbench.pinned(), ())
        self.assert_same(workbench.pin((0, 2)), (0, 1, 3))
        self.assert_same(workbench.turn(1), (1, 3, 0))
        self.assert_same(workbench.pinned(), (1, 2))

    def test_written_out(self):
        workbench = Workbench((0, 1, 3, 6))
        self.assert_same(workbench.pin((1, 2)), (0, 1, 3, 6))
        # Pinned seats are shifted with the others.
        self.assert_same(workbench.shift(-2), (-2, -1, 1, 4))
        self.assert_same(workbench.reflect(3), (-2, -1, 1, -5))
        self.assert_same(workbench.turn(2), (1, -5, -2, -1))
        self.assert_same(workbench.pinned(), (0, 3))
        self.assert_same(workbench.repeat([1, 2], 1), (1, 4, 5, -1))
        expected = {"position": 2, "reason": "pinned"}
        self.assert_raises(InvalidMove, expected, workbench.repeat, [1, 2, 3], 1)
        self.assert_same(workbench.pin(()), (1, 4, 5, -1))
        self.assert_same(workbench.repeat([3], 7), (1, 4, 5, 7))
        words = ["pin", "shift", "reflect", "turn", "repeat", "pin", "repeat"]
        self.assert_same(workbench.operations(), words)
        self.assert_same(workbench.undo(), True)
        self.assert_same(workbench.undo(), True)
        self.assert_same(workbench.pinned(), (0, 3))
        self.assert_same(workbench.operations(), words[:5])
        self.assert_same(workbench.redo(), True)
        self.assert_same(workbench.pinned(), ())
        # A new operation takes the place of what was undone.
        self.assert_same(workbench.shift(0), (1, 4, 5, -1))
        self.assert_same(workbench.redo(), False)
        self.assert_same(workbench.operations(), words[:6] + ["shift"])

    def test_operations_that_change_no_mark(self):
        workbench = Workbench((4, 4, 4))
        for operation in (("reflect", 1), ("shift", 0), ("turn", 0), ("repeat", [], 3),
                          ("repeat", [0], 0), ("pin", ())):
            self.assert_same(call(workbench, operation), (4, 4, 4))
        words = ["reflect", "shift", "turn", "repeat", "repeat", "pin"]
        self.assert_same(workbench.operations(), words)
        for _ in words:
            self.assert_same(workbench.undo(), True)
        self.assert_same(workbench.undo(), False)
        self.assert_same(workbench.operations(), [])
        self.assert_same(workbench.redo(), True)
        # This operation changes nothing either, but it has been executed.
        workbench.shift(0)
        self.assert_same(workbench.redo(), False)

    def test_operations_that_fail_leave_what_was_undone(self):
        workbench = Workbench((0, 1, 3))
        workbench.shift(1)
        workbench.turn(2)
        workbench.undo()
        self.assert_raises(InvalidAmount, {}, workbench.shift, None)
        self.assert_raises(InvalidPins, {}, workbench.pin, (1, 1))
        self.assert_raises(InvalidTimes, {}, workbench.repeat, [0], -1)
        self.assert_same(workbench.redo(), True)
        self.assert_same(workbench.ring(), (4, 1, 2))

    def test_largest_amounts_and_times(self):
        workbench = Workbench((0, 1, 3))
        self.assert_same(workbench.shift(1000000), (1000000, 1000001, 1000003))
        self.assert_same(workbench.shift(1000000), (2000000, 2000001, 2000003))
        for _ in range(2):
            workbench.shift(-1000000)
        self.assert_same(workbench.shift(-1000000), (-1000000, -999999, -999997))
        workbench.shift(1000000)
        far = 9 * 5 * 10 ** 17
        self.assert_same(workbench.repeat([0, 1, 2], 10 ** 18), (far, far + 1, far + 3))
        self.assert_same(workbench.repeat([2, 1, 0], 10 ** 18), (0, 1, 3))
        for _ in range(3):
            workbench.repeat([0, 1, 2], 10 ** 18)
        self.assert_same(workbench.ring(), (3 * far, 3 * far + 1, 3 * far + 3))


class OperationsTest(WorkbenchTest):
    def test_random_operations(self):
        source = random.Random(141)
        kinds = {True: 0, False: 0}
        for marks in random_rings(142, 300):
            workbench, model = Workbench(marks), Model(marks)
            for _ in range(14):
                operation = random_operation(source, model, 0.2)
                kinds[self.assert_execution(workbench, model, operation)] += 1
            self.assert_complete_state(workbench, model)
        self.assertGreater(min(kinds.values()), 600)

    def test_the_complete_state_after_each_operation(self):
        source = random.Random(143)
        for marks in random_rings(144, 40):
            workbench, model = Workbench(marks), Model(marks)
            for _ in range(14):
                self.assert_execution(workbench, model, random_operation(source, model, 0.2))
                self.assert_complete_state(workbench, model)

    def test_undo_and_redo(self):
        source = random.Random(145)
        for marks in random_rings(146, 100):
            workbench, model = Workbench(marks), Model(marks)
            for _ in range(6):
                self.assert_execution(workbench, model, random_change(source, model))
            for operation in (("undo",), ("redo",), ("undo",), ("undo",), ("undo",), ("redo",)):
                self.assert_execution(workbench, model, operation)
            self.assert_complete_state(workbench, model)
            self.assert_execution(workbench, model, random_change(source, model))
            self.assert_same(workbench.redo(), False)
            self.assert_complete_state(workbench, model)

    def test_each_turn(self):
        source = random.Random(147)
        for _ in range(150):
            marks = random_ring(source)
            pins = random_pins(source, len(marks))
            for count in range(len(marks)):
                workbench = Workbench(marks)
                workbench.pin(pins)
                turned = workbench.turn(count)
                self.assert_same(turned, tuple((marks * 2)[count:count + len(marks)]))
                self.assertEqual(list(workbench.pinned()), sorted(workbench.pinned()))
                kept = [turned[pin] for pin in workbench.pinned()]
                self.assertEqual(sorted(kept), sorted(marks[pin] for pin in pins))
                workbench.turn((len(marks) - count) % len(marks))
                self.assert_same((workbench.ring(), workbench.pinned()), (marks, pins))

    def test_lists_that_the_caller_modifies(self):
        workbench = Workbench((0, 1, 3))
        block = [0, 1, 2]
        workbench.repeat(block, 2)
        self.assert_same(block, [0, 1, 2])
        block.clear()
        workbench.undo()
        workbench.redo()
        self.assert_same(workbench.ring(), (9, 10, 12))
        words = workbench.operations()
        words.append("x")
        self.assert_same(workbench.operations(), ["repeat"])
        self.assertIsNot(workbench.operations(), workbench.operations())

    def test_two_workbenches(self):
        source = random.Random(148)
        for first, second in zip(random_rings(149, 60), random_rings(150, 60)):
            workbenches = [Workbench(first), Workbench(second), Workbench(first)]
            models = [Model(first), Model(second), Model(first)]
            for _ in range(18):
                place = source.randrange(3)
                operation = random_operation(source, models[place], 0.2)
                self.assert_execution(workbenches[place], models[place], operation)
            for workbench, model in zip(workbenches, models):
                self.assert_complete_state(workbench, model)


class ReachesTest(WorkbenchTest):
    def other_ring(self, source, marks, pins):
        """Return a ring that reflections of seats that are not pinned may lead to."""
        way = source.randrange(5)
        if way < 2:
            return reflected(marks, random_seats(source, len(marks), 12, pins))
        if way == 2:
            return reflected(marks, random_seats(source, len(marks), 4))
        if way == 3:
            steps = list(steps_of(marks))
            source.shuffle(steps)
            return marks_from(marks[0] + source.choice([0, 0, 1, -2, 6]), steps)
        return random_ring(source)

    def test_random_rings(self):
        source = random.Random(151)
        kinds = {}
        for marks in random_rings(152, 1500):
            workbench, model = Workbench(marks), Model(marks)
            for _ in range(source.randint(0, 3)):
                self.assert_execution(workbench, model, random_change(source, model))
            if source.random() < 0.5:
                self.assert_execution(workbench, model, ("pin", random_pins(source, len(marks))))
            ring, pins = model.state()
            other = self.other_ring(source, ring, pins)
            if max(map(abs, other)) > LARGEST_MARK:
                continue
            difference = difference_of(ring, other)
            if pins:
                difference = pinned_difference_of(ring, other, pins)
            self.assert_same(workbench.reaches(other), difference is None)
            if small_marks(model):
                found = find_pinned_difference(ring, other, pins) if pins else find_difference(ring, other)
                self.assert_same(workbench.reaches(other), found is None)
            self.assert_complete_state(workbench, model)
            kind = (bool(pins), difference is None)
            kinds[kind] = kinds.get(kind, 0) + 1
        self.assertEqual(len(kinds), 4)
        self.assertGreater(min(kinds.values()), 90)

    def test_written_out(self):
        workbench = Workbench((0, 1, 3))
        self.assert_same(workbench.reaches((0, 1, 3)), True)
        self.assert_same(workbench.reaches((1000, 1001, 1003)), True)
        self.assert_same(workbench.reaches((0, 2, 4)), False)
        self.assert_same(workbench.reaches((0, 1, 3, 3)), False)
        workbench.pin((0,))
        self.assert_same(workbench.reaches((1000, 1001, 1003)), False)
        self.assert_same(workbench.reaches((0, -3, -1)), True)
        self.assert_same(workbench.reaches((0, 1, 3, 3)), False)
        workbench.pin((0, 1, 2))
        self.assert_same(workbench.reaches((0, 1, 3)), True)
        self.assert_same(workbench.reaches((0, 2, 3)), False)

    def test_marks_beyond_the_limits(self):
        workbench = Workbench((0, 1, 3))
        workbench.repeat([0, 1, 2], 10 ** 18)
        # The modulus of the steps 1, 2, -3 is 1, so that each mark is reached.
        self.assert_same(workbench.reaches((0, 1, 3)), True)
        self.assert_same(workbench.reaches((5, 6, 8)), True)
        self.assert_same(workbench.reaches((5, 6, 9)), False)
        workbench.pin((1,))
        self.assert_same(workbench.reaches((0, 1, 3)), False)
        # The modulus of the steps 2, -2, -2, 2 is 4.
        workbench = Workbench((0, 2, 0, -2))
        for _ in range(3):
            workbench.shift(1000000)
        self.assert_same(workbench.reaches((0, 2, 0, -2)), True)
        self.assert_same(workbench.reaches((4, 6, 4, 2)), True)
        self.assert_same(workbench.reaches((1, 3, 1, -1)), False)
        workbench.shift(1)
        self.assert_same(workbench.reaches((0, 2, 0, -2)), False)
        self.assert_same(workbench.reaches((1, 3, 1, -1)), True)
        # Only one of the pinned marks is beyond the limits.
        workbench = Workbench((1000000, 0, -1000000, 1000000))
        self.assert_same(workbench.reflect(0), (0, 0, -1000000, 1000000))
        self.assert_same(workbench.reflect(3), (0, 0, -1000000, -2000000))
        workbench.pin((1,))
        self.assert_same(workbench.reaches((1000000, 0, -1000000, 1000000)), True)
        workbench.pin((3,))
        self.assert_same(workbench.reaches((1000000, 0, -1000000, 1000000)), False)

    def test_invalid_rings(self):
        workbench, model = Workbench((0, 1, 3)), Model((0, 1, 3))
        for pins in ((), (1,)):
            self.assert_execution(workbench, model, ("pin", pins))
            self.assert_execution(workbench, model, ("shift", 1))
            workbench.undo()
            model.execute(("undo",))
            for marks, position in invalid_rings():
                self.assert_raises(InvalidMarks, {"position": position}, workbench.reaches, marks)
            self.assert_complete_state(workbench, model)


class ErrorsTest(WorkbenchTest):
    """Each error, with operations before that are in effect and undone."""

    def prepared(self, length=8):
        marks = (0, 1, 3, 5, 4, 2, 2, 1)[:length]
        workbench, model = Workbench(marks), Model(marks)
        for operation in (("pin", (1,)), ("turn", 1), ("shift", 3), ("undo",)):
            self.assert_execution(workbench, model, operation)
        self.assert_same(workbench.pinned(), (0,))
        return workbench, model

    def assert_failures(self, error, attributes, cases, length=8):
        workbench, model = self.prepared(length)
        for name, *values in cases:
            self.assert_raises(error, attributes, getattr(workbench, name), *values)
            self.assert_state(workbench, model)
        self.assert_complete_state(workbench, model)

    def test_marks(self):
        for marks, position in invalid_rings():
            self.assert_raises(InvalidMarks, {"position": position}, Workbench, marks)

    def test_reflect(self):
        expected = {"position": 0, "reason": "seat"}
        self.assert_failures(InvalidMove, expected, [("reflect", seat) for seat in NO_SEATS])
        self.assert_failures(InvalidMove, expected, [("reflect", 3), ("reflect", -1)], 3)
        expected = {"position": 0, "reason": "pinned"}
        self.assert_failures(InvalidMove, expected, [("reflect", 0)])

    def test_pin(self):
        for length in range(3, 9):
            cases = [("pin", pins) for pins in invalid_pins(length) if pins != ()]
            self.assert_failures(InvalidPins, {}, cases, length)

    def test_shift(self):
        self.assert_failures(InvalidAmount, {}, [("shift", amount) for amount in BAD_AMOUNTS])
        for amount in (LARGEST_AMOUNT, -LARGEST_AMOUNT, 0):
            self.assert_same(Workbench((0, 1, 3)).shift(amount), (amount, amount + 1, amount + 3))

    def test_turn(self):
        self.assert_failures(InvalidAmount, {}, [("turn", count) for count in NO_SEATS])
        for length in range(3, 9):
            cases = [("turn", count) for count in (length, length + 1, -1, -length)]
            self.assert_failures(InvalidAmount, {}, cases, length)

    def test_repeat(self):
        expected = {"position": 0, "reason": "seat"}
        # The block is checked first, even if it is executed no times.
        for times in (0, 5, -1, True, None, 10 ** 30):
            cases = [("repeat", block, times) for block in NO_LISTS]
            self.assert_failures(InvalidMove, expected, cases)
            cases = [("repeat", [bad, 1], times) for bad in NO_SEATS]
            self.assert_failures(InvalidMove, expected, cases)
            cases = [("repeat", [1, 2, 0, 99], times)]
            self.assert_failures(InvalidMove, {"position": 2, "reason": "pinned"}, cases)
            cases = [("repeat", [1, 2, 1, None, 0], times)]
            self.assert_failures(InvalidMove, {"position": 3, "reason": "seat"}, cases)
        cases = [("repeat", block, times) for block in ([], [1, 2]) for times in BAD_TIMES]
        self.assert_failures(InvalidTimes, {}, cases)
        for times in (0, MOST_TIMES):
            self.assert_same(Workbench((0, 1, 3)).repeat([1], times), (0, 1, 3))

    def test_random_blocks(self):
        source = random.Random(153)
        for _ in range(300):
            marks = random_ring(source)
            pins = random_pins(source, len(marks))
            workbench, model = Workbench(marks), Model(marks)
            self.assert_execution(workbench, model, ("pin", pins))
            block = random_seats(source, len(marks), 6, pins)
            for _ in range(source.randint(1, 3)):
                bad = source.choice([*NO_SEATS, *range(9)])
                block.insert(source.randint(0, len(block)), bad)
            times = source.choice([0, 3, MOST_TIMES, *BAD_TIMES])
            error = move_error(block, len(marks), pins)
            if error is not None:
                expected = {"position": error[0], "reason": error[1]}
                self.assert_raises(InvalidMove, expected, workbench.repeat, block, times)
            else:
                self.assert_execution(workbench, model, ("repeat", block, times))
            self.assert_complete_state(workbench, model)


if __name__ == "__main__":
    unittest.main()
