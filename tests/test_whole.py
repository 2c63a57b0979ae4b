"""Point 1 for the whole program: nothing is modified, and nothing is remembered."""

import copy
import random
import unittest

from model import Model, call, everything_of, random_operation
from support import MarkringTest, random_ring, random_some_pins

from markring.blocks import block_drift, block_period, first_time, is_identity, repeat_block
from markring.distance import min_moves, shortest_moves
from markring.errors import MarkError
from markring.inference import HiddenRing
from markring.moves import active_seats, apply_moves
from markring.pinned import (
    count_pinned,
    find_arcs,
    find_pinned_difference,
    pinned_at,
    pinned_moves,
    possible_marks,
    rank_pinned,
)
from markring.reachability import find_difference, find_moves
from markring.rings import build_ring, find_modulus, find_steps
from markring.textio import format_session, parse_session
from markring.workbench import Workbench, replay


def questions_about(source, marks):
    """Return functions with arguments, some of which raise errors."""
    length = len(marks)
    pins = random_some_pins(source, length)
    block = [source.randrange(length) for _ in range(source.randint(0, 8))]
    seat, other = source.randrange(length), apply_moves(marks, block[:3])
    free = [seat for seat in block if seat not in pins]
    operations = [("repeat", block, 5), ("pin", pins), ("undo",), ("shift", -4), ("turn", seat)]
    text = format_session(marks, operations)
    return [
        (find_steps, (marks,), {}),
        (build_ring, (marks[0], find_steps(marks)), {}),
        (find_modulus, (marks,), {}),
        (apply_moves, (marks, block), {}),
        (apply_moves, (marks, free), {"pins": pins}),
        (apply_moves, (marks, [*free, pins[0]]), {"pins": pins}),
        (active_seats, (marks,), {"pins": pins}),
        (find_difference, (marks, (0, 1, 3)), {}),
        (find_moves, (marks, other), {}),
        (shortest_moves, (marks, other, 4), {}),
        (min_moves, (marks, other, 4), {}),
        (find_arcs, (marks, pins), {}),
        (find_arcs, (marks, ()), {}),
        (find_pinned_difference, (marks, other, pins), {}),
        (pinned_moves, (marks, apply_moves(marks, free[:9], pins=pins), pins), {}),
        (count_pinned, (marks, pins), {}),
        (rank_pinned, (marks, pins), {}),
        (pinned_at, (marks, pins, 0), {}),
        (pinned_at, (marks, pins, 10 ** 6), {}),
        (possible_marks, (marks, pins, seat), {}),
        (repeat_block, (marks, block, 10 ** 17), {}),
        (repeat_block, (marks, [*block, 8], 1), {}),
        (block_drift, (marks, block), {}),
        (block_period, (marks, block), {}),
        (first_time, (marks, block, seat, marks[0] + 1), {}),
        (first_time, (marks, block, -1, 0), {}),
        (is_identity, (length, block + block), {}),
        (ask_hidden, (marks, pins, seat), {}),
        (ask_workbench, (marks, operations), {}),
        (format_session, (marks, operations), {}),
        (format_session, (marks, [*operations, ("turn", 8)]), {}),
        (parse_session, (text,), {}),
        (parse_session, (text + "\n",), {}),
    ]


def ask_hidden(marks, pins, seat):
    hidden = HiddenRing(marks, pins)
    numbers = [hidden.observe_mark(pins[0], marks[pins[0]]), hidden.candidates(), hidden.marks_at(seat)]
    return [numbers, hidden.known_marks(), hidden.differing_pair(seat), hidden.best_seat(), hidden.history()]


def ask_workbench(marks, operations):
    workbench = Workbench(marks)
    results = workbench.batch(operations)
    return [results, everything_of(workbench), everything_of(replay(marks, operations)), workbench.reaches(marks)]


def answer(question):
    """Return the value or the error of a question as a text, and modify lists in it."""
    function, values, keywords = question
    try:
        found = function(*values, **keywords)
    except MarkError as error:
        return repr((type(error).__name__, vars(error)))
    shown = repr(found)
    spoil(found)
    return shown


def spoil(value):
    """Modify all lists within a value."""
    if isinstance(value, (list, tuple)):
        for item in value:
            spoil(item)
    if isinstance(value, list):
        value.reverse()
        value.append("x")


class WholeTest(MarkringTest):
    def test_the_same_questions_in_other_orders(self):
        source = random.Random(201)
        for _ in range(25):
            first, second = random_ring(source, 6), random_ring(source, 9)
            questions = questions_about(source, first) + questions_about(source, second)
            kept = copy.deepcopy(questions)
            answers = [answer(question) for question in questions]
            places = list(range(len(questions)))
            for _ in range(3):
                source.shuffle(places)
                for place in places:
                    self.assertEqual(answer(questions[place]), answers[place], questions[place])
            # The functions are compared by name, the arguments by value.
            self.assert_same(questions, kept)

    def test_two_rings_used_alternately(self):
        source = random.Random(202)
        for _ in range(25):
            first = questions_about(source, random_ring(source, 6))
            second = questions_about(source, random_ring(source, 6))
            alone = [answer(question) for question in first], [answer(question) for question in second]
            for place in range(len(first)):
                for _ in range(2):
                    self.assertEqual(answer(first[place]), alone[0][place])
                    self.assertEqual(answer(second[place]), alone[1][place])

    def test_errors_and_values_are_both_asked_for(self):
        answers = [answer(question) for question in questions_about(random.Random(203), (0, 1, 3, 3, 1))]
        for error in ("InvalidMove", "InvalidPins", "InvalidIndex", "InvalidOperation", "InvalidText"):
            self.assertTrue(any(error in each for each in answers), error)

    def test_hidden_rings_asked_in_other_orders(self):
        source = random.Random(204)
        for _ in range(40):
            marks = random_ring(source, 3)
            pins = random_some_pins(source, len(marks))
            if count_pinned(marks, pins) > 500:
                continue
            hidden, other = HiddenRing(marks, pins), HiddenRing(marks, pins)
            questions = [(hidden.marks_at, (seat,), {}) for seat in range(len(marks))]
            questions += [(hidden.differing_pair, (seat,), {}) for seat in (0, len(marks) - 1, -1)]
            for function in (hidden.candidates, hidden.known_marks, hidden.best_seat, hidden.history):
                questions.append((function, (), {}))
            questions.append((hidden.observe_mark, (0, 10 ** 9), {}))
            questions.append((hidden.observe_sign, (0, 2), {}))
            for _ in range(3):
                answers = [answer(question) for question in questions]
                for place in source.sample(range(len(questions)), len(questions)):
                    self.assertEqual(answer(questions[place]), answers[place])
                ring = source.choice(hidden.candidates())
                seat = source.randrange(len(marks))
                hidden.observe_mark(seat, ring[seat])
            self.assertEqual(other.history(), [])
            self.assertEqual(len(other.candidates()), count_pinned(marks, pins))

    def test_workbenches_asked_in_other_orders(self):
        source = random.Random(205)
        for _ in range(40):
            marks = random_ring(source, 6)
            workbench, model = Workbench(marks), Model(marks)
            workbench.save("start")
            for _ in range(8):
                operation = random_operation(source, model)
                call(workbench, operation)
                model.execute(operation)
                questions = [(function, (), {}) for function in (
                    workbench.ring, workbench.pinned, workbench.operations)]
                questions.append((workbench.reaches, (marks,), {}))
                for function, value in (
                    (workbench.reflect, 8), (workbench.pin, [0]), (workbench.shift, None),
                    (workbench.turn, -1), (workbench.reaches, ()), (workbench.save, "A"),
                    (workbench.restore, "b"), (workbench.batch, [("undo",), ("shift", 5), ("turn", 9)]),
                    (workbench.batch, [("shift", 5), ("turn",)]), (workbench.batch, []),
                ):
                    questions.append((function, (value,), {}))
                answers = [answer(question) for question in questions]
                before = everything_of(workbench)
                for place in source.sample(range(len(questions)), len(questions)):
                    self.assertEqual(answer(questions[place]), answers[place])
                self.assert_same(everything_of(workbench), before)
                self.assert_same(before, model.everything())
            workbench.restore("start")
            self.assert_same(everything_of(workbench), Model(marks).everything())


if __name__ == "__main__":
    unittest.main()
