"""Point 13: snapshots, batches and replays."""

import copy
import random
import unittest

from model import (
    MALFORMED,
    Model,
    call,
    everything_of,
    executed_batch,
    random_change,
    random_operation,
    random_operations,
    replayed,
)
from support import NO_LISTS, MarkringTest, invalid_rings, random_ring, random_rings

from markring.errors import (
    InvalidAmount,
    InvalidMarks,
    InvalidMove,
    InvalidName,
    InvalidOperation,
    InvalidPins,
    InvalidTimes,
    UnknownName,
)
from markring.workbench import Workbench, replay

NO_NAMES = [
    True, False, None, 0, 5, -1, "", " ", "A", "Z", "aB", "a1", "1", "a ", " a", "a-b", "a_b",
    "abcdefghi", "aaaaaaaaaaaaaaaa", "a\n", "{", "`", "a{", "\u00e4", "\u00df", "\u0101", "\u03b1",
    (), ("a",), ("a", "b"), [], ["a"], [["a"]],
]
NAMES = ["a", "z", "m", "ab", "zz", "abcdefgh", "zzzzzzzz", "undo", "marks"]


def prepared(source, marks, number=6):
    """Return a workbench and its model after operations, some of which are undone."""
    workbench, model = Workbench(marks), Model(marks)
    for _ in range(source.randint(0, number)):
        operation = random_change(source, model)
        call(workbench, operation)
        model.execute(operation)
    for word in source.choice([(), ("undo",), ("undo",) * 2, ("undo", "undo", "redo")]):
        call(workbench, (word,))
        model.execute((word,))
    return workbench, model


def random_batch(source, model, number, failing):
    """Return up to a number of operations, the last of which may fail."""
    model, operations = model.copied(), []
    for _ in range(source.randint(0, number)):
        operations.append(random_operation(source, model, failing))
        if model.error(operations[-1]) is None:
            model.execute(operations[-1])
    return operations


class BatchTest(MarkringTest):
    def assert_complete_state(self, workbench, model):
        self.assert_same(everything_of(workbench), model.everything())

    def assert_batch(self, workbench, model, operations):
        """Execute a batch on both and return the model afterwards."""
        kept = copy.deepcopy(operations)
        after, results = executed_batch(model, operations)
        if after is None:
            self.assert_raises(*results, workbench.batch, operations)
            after = model
        else:
            found = workbench.batch(operations)
            self.assert_same(found, results)
            self.assertIs(type(found), list)
            found.clear()
        self.assert_same(operations, kept)
        self.assert_complete_state(workbench, after)
        return after

    def test_examples(self):
        workbench = Workbench((0, 1, 3))
        self.assert_same(workbench.batch([("shift", 5), ("undo",)]), [(5, 6, 8), True])
        expected = {"position": 0}
        self.assert_raises(InvalidOperation, expected, Workbench((0, 1, 3)).batch, [("shift",)])

    def test_written_out(self):
        workbench = Workbench((0, 1, 3))
        self.assert_same(workbench.batch([]), [])
        operations = [("undo",), ("redo",), ("reflect", 1), ("pin", (1,)), ("turn", 1),
                      ("repeat", [1, 2], 2), ("undo",), ("undo",), ("redo",), ("shift", -1), ("redo",)]
        # (0, 1, 3), then (0, 2, 3), turned (2, 3, 0). Reflecting the seats 1 and 2
        # leads to (2, -1, 0), (2, -1, 1), then (2, 4, 1), (2, 4, 5).
        results = [False, False, (0, 2, 3), (0, 2, 3), (2, 3, 0), (2, 4, 5), True, True, True,
                   (1, 2, -1), False]
        self.assert_same(workbench.batch(operations), results)
        self.assert_same(workbench.operations(), ["reflect", "pin", "turn", "shift"])
        self.assert_same(workbench.pinned(), (0,))

    def test_the_error_of_an_operation(self):
        source = random.Random(161)
        for error, attributes, operation in (
            (InvalidMove, {"position": 0, "reason": "seat"}, ("reflect", 3)),
            (InvalidMove, {"position": 0, "reason": "pinned"}, ("reflect", 1)),
            (InvalidMove, {"position": 1, "reason": "pinned"}, ("repeat", [0, 1], 2)),
            (InvalidMove, {"position": 0, "reason": "seat"}, ("repeat", (0, 1), -2)),
            (InvalidPins, {}, ("pin", [1])),
            (InvalidPins, {}, ("pin", None)),
            (InvalidAmount, {}, ("shift", 1000001)),
            (InvalidAmount, {}, ("shift", ("undo",))),
            (InvalidAmount, {}, ("turn", 3)),
            (InvalidAmount, {}, ("turn", True)),
            (InvalidTimes, {}, ("repeat", [0], 10 ** 18 + 1)),
        ):
            for number in range(4):
                workbench, model = prepared(source, (0, 1, 3))
                if source.random() < 0.5 and model.undone:
                    # Undone operations are as before, too: the batch undoes and redoes some.
                    operations = [("undo",), ("redo",), ("redo",), ("pin", (1,))]
                else:
                    operations = [("pin", (1,))]
                operations += [("shift", 1)] * number + [operation, ("shift", 9), operation]
                self.assertEqual(executed_batch(model, operations), (None, (error, attributes)))
                self.assert_batch(workbench, model, operations)

    def test_random_batches(self):
        source = random.Random(162)
        kinds = {True: 0, False: 0}
        for marks in random_rings(163, 250):
            workbench, model = prepared(source, marks)
            for _ in range(3):
                operations = random_batch(source, model, 8, source.choice([0, 0.1, 0.3]))
                after = self.assert_batch(workbench, model, operations)
                kinds[after is model] += 1
                model = after
        self.assertGreater(min(kinds.values()), 150)

    def test_malformed_operations(self):
        source = random.Random(164)
        for bad in MALFORMED:
            for _ in range(6):
                workbench, model = prepared(source, random_ring(source), 3)
                operations = random_batch(source, model, 5, source.choice([0, 0.5]))
                position = source.randint(0, len(operations))
                operations.insert(position, bad)
                expected = (None, (InvalidOperation, {"position": position}))
                self.assertEqual(executed_batch(model, operations), expected)
                self.assert_batch(workbench, model, operations)
                # Another one behind it changes nothing.
                operations.append(source.choice(MALFORMED))
                self.assertEqual(executed_batch(model, operations), expected)
                self.assert_batch(workbench, model, operations)

    def test_malformed_before_anything_is_executed(self):
        workbench = Workbench((0, 1, 3))
        operations = [("shift", None), ("reflect", 7), ("undo", 1)]
        self.assert_raises(InvalidOperation, {"position": 2}, workbench.batch, operations)
        self.assert_raises(InvalidAmount, {}, workbench.batch, operations[:2])

    def test_no_list(self):
        source = random.Random(165)
        for value in NO_LISTS + [(("undo",),), "undo", ("shift", 5), (("shift", 5), ("undo",))]:
            workbench, model = prepared(source, (0, 1, 3))
            self.assertEqual(executed_batch(model, value)[1], (InvalidOperation, {"position": 0}))
            self.assert_batch(workbench, model, value)

    def test_a_batch_is_as_many_operations(self):
        source = random.Random(166)
        for marks in random_rings(167, 80):
            workbench, model = Workbench(marks), Model(marks)
            operations = random_batch(source, model, 8, 0)
            other = Workbench(marks)
            expected = [call(other, operation) for operation in operations]
            self.assert_same(workbench.batch(operations), expected)
            self.assert_same(everything_of(workbench), everything_of(other))

    def test_an_empty_batch_keeps_what_was_undone(self):
        workbench = Workbench((0, 1, 3))
        workbench.batch([("shift", 5), ("undo",)])
        self.assert_same(workbench.batch([]), [])
        self.assert_same(workbench.redo(), True)
        self.assert_same(workbench.ring(), (5, 6, 8))

    def test_lists_that_the_caller_modifies(self):
        workbench = Workbench((0, 1, 3))
        block = [0, 1, 2]
        operations = [("repeat", block, 2), ("shift", 1)]
        results = workbench.batch(operations)
        block.clear()
        operations.clear()
        results.clear()
        workbench.batch([("undo",), ("undo",), ("redo",)])
        self.assert_same(workbench.ring(), (9, 10, 12))
        self.assert_same(workbench.operations(), ["repeat"])


class SnapshotsTest(MarkringTest):
    def test_examples(self):
        workbench = Workbench((0, 1, 3))
        self.assert_same(workbench.save("a"), None)
        workbench.shift(5)
        self.assert_same(workbench.restore("a"), None)
        self.assert_same(workbench.ring(), (0, 1, 3))
        self.assert_raises(UnknownName, {}, Workbench((0, 1, 3)).restore, "a")

    def test_random_snapshots(self):
        source = random.Random(168)
        for marks in random_rings(169, 150):
            workbench, model = prepared(source, marks)
            snapshots = {}
            for _ in range(16):
                name, chance = source.choice(NAMES[:4]), source.random()
                if chance < 0.3:
                    self.assert_same(workbench.save(name), None)
                    snapshots[name] = model.copied()
                elif chance < 0.6 and name in snapshots:
                    self.assert_same(workbench.restore(name), None)
                    model = snapshots[name].copied()
                elif chance < 0.6:
                    self.assert_raises(UnknownName, {}, workbench.restore, name)
                else:
                    operation = random_operation(source, model)
                    self.assert_same(call(workbench, operation), model.execute(operation))
            self.assert_same(everything_of(workbench), model.everything())
            # Each snapshot, again and again, whatever was executed after it.
            for name in list(snapshots) * 2:
                workbench.restore(name)
                self.assert_same(everything_of(workbench), snapshots[name].everything())
                workbench.undo()
                workbench.shift(7)

    def test_undone_operations_are_saved(self):
        workbench = Workbench((0, 1, 3))
        workbench.batch([("shift", 5), ("turn", 1), ("pin", (2,)), ("undo",), ("undo",)])
        workbench.save("half")
        before = everything_of(workbench)
        self.assertEqual(before[0], 1)
        self.assertEqual(len(before[1]), 4)
        for operation in (("shift", 1), ("undo",), ("redo",), ("redo",)):
            workbench.restore("half")
            call(workbench, operation)
            workbench.restore("half")
            self.assert_same(everything_of(workbench), before)
        # Restoring is no operation that could be undone.
        self.assert_same(workbench.undo(), True)
        self.assert_same(workbench.operations(), [])
        self.assert_same(workbench.undo(), False)

    def test_saving_is_no_operation(self):
        workbench = Workbench((0, 1, 3))
        workbench.batch([("shift", 5), ("undo",)])
        workbench.save("a")
        self.assert_same(workbench.operations(), [])
        self.assert_same(workbench.undo(), False)
        self.assert_same(workbench.redo(), True)

    def test_snapshots_are_not_part_of_the_state(self):
        workbench = Workbench((0, 1, 3))
        workbench.save("a")
        workbench.shift(5)
        workbench.save("b")
        workbench.undo()
        # The snapshot is still there after undo, and after restoring an older state.
        workbench.restore("a")
        workbench.restore("b")
        self.assert_same(workbench.ring(), (5, 6, 8))
        workbench.save("a")
        workbench.turn(1)
        self.assert_raises(InvalidAmount, {}, workbench.batch, [("undo",), ("shift", None)])
        workbench.restore("a")
        self.assert_same(workbench.ring(), (5, 6, 8))
        self.assert_same(workbench.operations(), ["shift"])

    def test_each_workbench_has_its_own_snapshots(self):
        first, second = Workbench((0, 1, 3)), Workbench((0, 1, 3))
        first.save("a")
        self.assert_raises(UnknownName, {}, second.restore, "a")
        second.shift(1)
        second.save("a")
        first.restore("a")
        self.assert_same(first.ring(), (0, 1, 3))
        self.assert_raises(UnknownName, {}, replay((0, 1, 3), []).restore, "a")

    def test_names(self):
        for name in NAMES:
            workbench = Workbench((0, 1, 3))
            self.assert_same(workbench.save(name), None)
            workbench.shift(5)
            for other in NAMES:
                if other != name:
                    self.assert_raises(UnknownName, {}, workbench.restore, other)
            self.assert_same(workbench.restore(name), None)
            self.assert_same(workbench.ring(), (0, 1, 3))

    def test_invalid_names(self):
        source = random.Random(170)
        for name in NO_NAMES:
            workbench, model = prepared(source, random_ring(source))
            workbench.save("a")
            self.assert_raises(InvalidName, {}, workbench.save, name)
            self.assert_raises(UnknownName, {}, workbench.restore, name)
            self.assert_same(everything_of(workbench), model.everything())

    def test_a_failing_restore_changes_nothing(self):
        source = random.Random(171)
        for marks in random_rings(172, 40):
            workbench, model = prepared(source, marks)
            self.assert_raises(UnknownName, {}, workbench.restore, "b")
            self.assert_same(everything_of(workbench), model.everything())


class ReplayTest(MarkringTest):
    def assert_replay(self, marks, operations):
        """Compare a replay with the model and return whether it succeeds."""
        kept = copy.deepcopy((marks, operations))
        model, error = replayed(marks, operations)
        if error is not None:
            self.assert_raises(*error, replay, marks, operations)
        else:
            workbench = replay(marks, operations)
            self.assertIs(type(workbench), Workbench)
            self.assert_same(everything_of(workbench), model.everything())
            self.assert_same(workbench.ring(), model.state()[0])
        self.assert_same((marks, operations), kept)
        return error is None

    def test_examples(self):
        self.assert_same(replay((0, 1, 3), [("reflect", 1)]).ring(), (0, 2, 3))

    def test_written_out(self):
        workbench = replay((0, 1, 3), [])
        self.assert_same((workbench.ring(), workbench.pinned()), ((0, 1, 3), ()))
        # Nothing to undo is no failure.
        operations = [("undo",), ("shift", 5), ("pin", (2,)), ("undo",), ("redo",), ("redo",)]
        workbench = replay((0, 1, 3), operations)
        self.assert_same((workbench.ring(), workbench.pinned()), ((5, 6, 8), (2,)))
        self.assert_same(workbench.operations(), ["shift", "pin"])
        self.assert_same(workbench.undo(), True)
        self.assert_same(workbench.pinned(), ())

    def test_random_replays(self):
        source = random.Random(173)
        kinds = {True: 0, False: 0}
        for marks in random_rings(174, 500):
            operations = random_operations(source, marks, 12, source.choice([0, 0, 0.1, 0.3]))
            kinds[self.assert_replay(marks, operations)] += 1
        self.assertGreater(min(kinds.values()), 120)

    def test_the_first_that_is_malformed_or_fails(self):
        expected = {"position": 1}
        for operations in (
            [("shift", 1), ("shift", None), ("shift",)],
            [("shift", 1), ("shift",), ("shift", None)],
            [("pin", (1,)), ("reflect", 1), None],
            [("undo",), ["undo"], ("reflect", 1)],
            [("turn", 2), ("turn", 3)],
            [("turn", 2), ("repeat", [0], -1)],
            [("turn", 2), ("repeat", [3], 1), ("save", "a")],
        ):
            self.assert_raises(InvalidOperation, expected, replay, (0, 1, 3), operations)
            self.assertFalse(self.assert_replay((0, 1, 3), operations))

    def test_malformed_operations(self):
        source = random.Random(175)
        for bad in MALFORMED:
            for _ in range(4):
                marks = random_ring(source)
                operations = random_operations(source, marks, 6)
                position = source.randint(0, len(operations))
                operations.insert(position, bad)
                self.assert_raises(InvalidOperation, {"position": position}, replay, marks, operations)
                self.assertFalse(self.assert_replay(marks, operations))

    def test_no_list(self):
        for value in NO_LISTS + [(("undo",),), "undo", ("undo",)]:
            self.assert_raises(InvalidOperation, {"position": 0}, replay, (0, 1, 3), value)

    def test_marks_first(self):
        for operations in ([], [("shift", 1)], [("shift",)], [None], None, ()):
            for marks, position in invalid_rings():
                self.assert_raises(InvalidMarks, {"position": position}, replay, marks, operations)

    def test_replays_do_not_influence_each_other(self):
        operations = [("repeat", [0, 1, 2], 2), ("shift", 1)]
        first, second = replay((0, 1, 3), operations), replay((0, 1, 3), operations)
        operations[0][1].clear()
        operations.append(("shift", 4))
        first.undo()
        first.turn(1)
        self.assert_same(second.ring(), (10, 11, 13))
        self.assert_same(second.operations(), ["repeat", "shift"])
        self.assert_same(second.undo(), True)
        self.assert_same(second.ring(), (9, 10, 12))


if __name__ == "__main__":
    unittest.main()
