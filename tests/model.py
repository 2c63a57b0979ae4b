"""What the tests of workbenches share: an independent model and random operations.

Nothing here imports the functions under test, only the errors. The model keeps
operations instead of states: it computes each state anew from the beginning,
and a block that is executed often is the power of a matrix.
"""

import functools
import re

from support import (
    LARGEST_MARK,
    NO_INTEGERS,
    NO_LISTS,
    NO_SEATS,
    invalid_pins,
    marks_from,
    move_error,
    pins_valid,
    random_pins,
    random_seats,
    reflected,
    ring_error,
    steps_of,
    whole,
)

from markring.errors import (
    InvalidAmount,
    InvalidMarks,
    InvalidMove,
    InvalidOperation,
    InvalidPins,
    InvalidText,
    InvalidTimes,
)

MOST_TIMES = 10 ** 18
LARGEST_AMOUNT = 1000000

BAD_TIMES = NO_INTEGERS + [-1, -2, MOST_TIMES + 1, 10 ** 19, 10 ** 30, -MOST_TIMES]
BAD_AMOUNTS = NO_INTEGERS + [LARGEST_AMOUNT + 1, -LARGEST_AMOUNT - 1, 10 ** 30, -10 ** 30]

ARGUMENTS = {"reflect": 1, "pin": 1, "shift": 1, "turn": 1, "repeat": 2, "undo": 0, "redo": 0}
CHANGES = ["reflect", "pin", "shift", "turn", "repeat"]

# What is not an operation, whatever a batch does before.
MALFORMED = [
    None, True, False, 0, 7, -1, "", "undo", "reflect", "shift 5", [], ["undo"], ["shift", 5],
    (), ("",), (None,), (True,), (0,), (["undo"],), (("undo",),), (("shift", 5),), ("jump",),
    ("jump", 1), ("UNDO",), ("undo ",), ("marks",), ("marks", 0), ("ring",), ("save", "a"),
    ("restore", "a"), ("batch", []), ("operations",), ("pinned",), ("reaches", (0, 1, 3)),
    ("reflect",), ("reflect", 0, 1), ("reflect", 0, None), ("pin",), ("pin", 0, 1),
    ("pin", (), ()), ("shift",), ("shift", 1, 2), ("turn",), ("turn", 0, 0), ("repeat",),
    ("repeat", [0]), ("repeat", [0], 1, 1), ("undo", 1), ("undo", None), ("undo", ()),
    ("redo", 0), ("redo", "redo"), (1, "shift"), (5, "reflect", 1), (None, "undo"),
]

NUMBER = "(?:0|-?[1-9][0-9]{0,18})"
FIRST_LINE = re.compile(f"marks(?: {NUMBER})*")
OTHER_LINE = re.compile(f"(?:reflect|shift|turn) {NUMBER}|pin(?: {NUMBER})*|repeat(?: {NUMBER})+|undo|redo")


def product_of(matrix, other):
    columns = list(zip(*other))
    return [[sum(a * b for a, b in zip(row, column)) for column in columns] for row in matrix]


def block_matrix(length, block):
    """Return the matrix of a block: each row tells a mark by the marks before."""
    rows = [[1 if seat == place else 0 for place in range(length)] for seat in range(length)]
    for seat in block:
        sides = zip(rows[(seat - 1) % length], rows[seat], rows[(seat + 1) % length])
        rows[seat] = [before + after - own for before, own, after in sides]
    return rows


def executed(marks, block, times):
    """Return the ring after a block has been executed a number of times."""
    column = [[mark] for mark in marks]
    for matrix in factors(len(marks), tuple(block), times):
        column = product_of(matrix, column)
    return tuple(mark for mark, in column)


@functools.lru_cache(maxsize=None)
def factors(length, block, times):
    """Return the powers of the matrix of a block that make up a number of times."""
    power, found = block_matrix(length, block), []
    while times > 0:
        if times % 2 == 1:
            found.append(power)
        power = product_of(power, power)
        times //= 2
    return found


def well_formed(operation):
    if type(operation) is not tuple or len(operation) == 0 or type(operation[0]) is not str:
        return False
    return operation[0] in ARGUMENTS and len(operation) == ARGUMENTS[operation[0]] + 1


def first_malformed(operations):
    """Return the position of InvalidOperation before a batch, or None."""
    if type(operations) is not list:
        return 0
    for position, operation in enumerate(operations):
        if not well_formed(operation):
            return position
    return None


def after_operation(marks, pins, operation):
    """Return the marks and the pinned seats after an operation that succeeds."""
    word, *values = operation
    if word == "reflect":
        return reflected(marks, values), pins
    if word == "pin":
        return marks, values[0]
    if word == "shift":
        return marks_from(marks[0] + values[0], steps_of(marks)), pins
    if word == "repeat":
        return executed(marks, *values), pins
    seats = [(mark, seat in pins) for seat, mark in enumerate(marks)]
    for _ in range(values[0]):
        seats.append(seats.pop(0))
    pins = tuple(seat for seat, (_, pinned) in enumerate(seats) if pinned)
    return tuple(mark for mark, _ in seats), pins


def operation_error(marks, pins, operation):
    """Return the error of a well-formed operation and its attributes, or None."""
    word, *values = operation
    length = len(marks)
    if word in ("reflect", "repeat"):
        error = move_error([values[0]] if word == "reflect" else values[0], length, pins)
        if error is not None:
            return InvalidMove, {"position": error[0], "reason": error[1]}
    if word == "repeat" and not (whole(values[1]) and 0 <= values[1] <= MOST_TIMES):
        return InvalidTimes, {}
    if word == "pin" and not pins_valid(values[0], length):
        return InvalidPins, {}
    if word == "shift" and not (whole(values[0]) and abs(values[0]) <= LARGEST_AMOUNT):
        return InvalidAmount, {}
    if word == "turn" and not (whole(values[0]) and values[0] in range(length)):
        return InvalidAmount, {}
    return None


class Model:
    """A workbench that computes its state anew from the operations in effect."""

    def __init__(self, marks, done=(), undone=()):
        self.start = marks
        self.done = list(done)
        self.undone = list(undone)

    def copied(self):
        return Model(self.start, self.done, self.undone)

    def state(self):
        """Return the marks and the pinned seats."""
        marks, pins = self.start, ()
        for operation in self.done:
            marks, pins = after_operation(marks, pins, operation)
        return marks, pins

    def words(self):
        return [operation[0] for operation in self.done]

    def error(self, operation):
        return operation_error(*self.state(), operation)

    def execute(self, operation):
        """Execute an operation that succeeds and return its result."""
        if operation == ("undo",):
            if self.done:
                self.undone.append(self.done.pop())
                return True
            return False
        if operation == ("redo",):
            if self.undone:
                self.done.append(self.undone.pop())
                return True
            return False
        self.done.append(operation)
        self.undone.clear()
        return self.state()[0]

    def everything(self):
        """Return what `everything_of` returns for a workbench like this one."""
        operations = self.done + self.undone[::-1]
        found = []
        for number in range(len(operations), -1, -1):
            marks, pins = Model(self.start, operations[:number]).state()
            found.append((marks, pins, [operation[0] for operation in operations[:number]]))
        return len(self.done), found


def everything_of(workbench):
    """Return the complete state of a workbench, which is as before afterwards."""
    place = len(workbench.operations())
    while workbench.redo():
        pass
    found = [(workbench.ring(), workbench.pinned(), workbench.operations())]
    while workbench.undo():
        found.append((workbench.ring(), workbench.pinned(), workbench.operations()))
    for _ in range(place):
        workbench.redo()
    return place, found


def executed_batch(model, operations):
    """Return the model after a batch and its results, or None and its error."""
    position = first_malformed(operations)
    if position is not None:
        return None, (InvalidOperation, {"position": position})
    model, results = model.copied(), []
    for operation in operations:
        error = model.error(operation)
        if error is not None:
            return None, error
        results.append(model.execute(operation))
    return model, results


def replayed(marks, operations):
    """Return the model after a replay and None, or None and its error."""
    if ring_error(marks) is not None:
        return None, (InvalidMarks, {"position": ring_error(marks)})
    if type(operations) is not list:
        return None, (InvalidOperation, {"position": 0})
    model = Model(marks)
    for position, operation in enumerate(operations):
        if not well_formed(operation) or model.error(operation) is not None:
            return None, (InvalidOperation, {"position": position})
        model.execute(operation)
    return model, None


def written(marks, operations):
    """Return the text of a session."""
    text = "marks"
    for mark in marks:
        text += f" {mark}"
    for word, *values in operations:
        numbers = values
        if word == "pin":
            numbers = values[0]
        if word == "repeat":
            numbers = [values[1], *values[0]]
        text += "\n" + word + "".join(f" {number}" for number in numbers)
    return text


def read(text):
    """Return the values of a text and None, or None and the error of its parsing."""
    if type(text) is not str:
        return None, (InvalidText, {"line": 0})
    lines = text.split("\n")
    for number, line in enumerate(lines):
        pattern = OTHER_LINE if number else FIRST_LINE
        if pattern.fullmatch(line) is None:
            return None, (InvalidText, {"line": number})
    rows = [[line.split(" ")[0], *map(int, line.split(" ")[1:])] for line in lines]
    marks, operations = tuple(rows[0][1:]), []
    for word, *numbers in rows[1:]:
        if word == "pin":
            operations.append((word, tuple(numbers)))
        elif word == "repeat":
            operations.append((word, numbers[1:], numbers[0]))
        else:
            operations.append((word, *numbers))
    error = replayed(marks, operations)[1]
    return (None, error) if error else ((marks, operations), None)


def random_times(source):
    return source.choice([0, 1, 2, 3, source.randint(0, 40), source.randint(0, MOST_TIMES), MOST_TIMES])


def random_change(source, model):
    """Return an operation that succeeds and is neither undo nor redo."""
    marks, pins = model.state()
    free = [seat for seat in range(len(marks)) if seat not in pins]
    word = source.choice(CHANGES if free else CHANGES[1:])
    if word == "reflect":
        return word, source.choice(free)
    if word == "pin":
        return word, source.choice([(), random_pins(source, len(marks))])
    if word == "shift":
        extremes = [0, LARGEST_AMOUNT, -LARGEST_AMOUNT]
        return word, source.choice([*extremes, source.randint(-9, 9), source.randint(-9, 9)])
    if word == "turn":
        return word, source.randrange(len(marks))
    return word, random_seats(source, len(marks), 6, pins), random_times(source)


def random_failure(source, model):
    """Return a well-formed operation that fails."""
    marks, pins = model.state()
    length = len(marks)
    seats = [*NO_SEATS, length, *pins]
    word = source.choice(CHANGES)
    if word == "reflect":
        return word, source.choice(seats)
    if word == "pin":
        return word, source.choice([bad for bad in invalid_pins(length) if bad != ()])
    if word == "shift":
        return word, source.choice(BAD_AMOUNTS)
    if word == "turn":
        return word, source.choice([*NO_SEATS, length])
    block, times = random_seats(source, length, 6, pins), random_times(source)
    way = source.randrange(4)
    if way == 0:
        return word, source.choice(NO_LISTS), source.choice([times, *BAD_TIMES])
    if way == 1:
        return word, block, source.choice(BAD_TIMES)
    block.insert(source.randint(0, len(block)), source.choice(seats))
    return word, block, source.choice([times, *BAD_TIMES])


def random_operation(source, model, failing=0.0):
    """Return an operation that fails with this probability."""
    if source.random() < failing:
        return random_failure(source, model)
    chance = source.random()
    if chance < 0.2:
        return ("undo",)
    if chance < 0.35:
        return ("redo",)
    return random_change(source, model)


def random_operations(source, marks, number, failing=0.0):
    """Return up to a number of operations for a new workbench."""
    model, operations = Model(marks), []
    for _ in range(source.randint(0, number)):
        operations.append(random_operation(source, model, failing))
        if model.error(operations[-1]) is None:
            model.execute(operations[-1])
    return operations


def call(workbench, operation):
    """Execute an operation by the method of its name."""
    return getattr(workbench, operation[0])(*operation[1:])


def small_marks(model):
    """Tell whether the marks could be given as a ring."""
    return all(abs(mark) <= LARGEST_MARK for mark in model.state()[0])
