"""Workbenches: a ring with pinned seats, undo, snapshots and batches."""

from markring.blocks import repeat_seats
from markring.checks import check_moves, check_pins, check_ring, check_times, is_seat, is_whole
from markring.errors import InvalidAmount, InvalidName, InvalidOperation, MarkError, UnknownName
from markring.moves import reflect_seats
from markring.pinned import pinned_difference_between
from markring.reachability import difference_between

LARGEST_AMOUNT = 1000000
LONGEST_NAME = 8

# The number of arguments that follow each word.
ARGUMENTS = {"reflect": 1, "pin": 1, "shift": 1, "turn": 1, "repeat": 2, "undo": 0, "redo": 0}


class Workbench:
    """A ring whose seats are reflected, pinned, shifted and turned."""

    def __init__(self, marks):
        check_ring(marks)
        # The word of each operation with the marks and the pinned seats after
        # it. The operations behind the place have been undone. The states are
        # a tuple, so that snapshots may share them.
        self._states = (("", marks, ()),)
        self._place = 0
        self._snapshots = {}

    def reflect(self, seat):
        """Reflect a seat and return the marks."""
        marks, pins = self.ring(), self.pinned()
        check_moves([seat], len(marks), pins)
        return self._advance("reflect", reflect_seats(marks, [seat]), pins)

    def pin(self, pins):
        """Replace the pinned seats and return the marks."""
        marks = self.ring()
        check_pins(pins, len(marks))
        return self._advance("pin", marks, pins)

    def shift(self, amount):
        """Add an amount to all marks and return them."""
        if not is_whole(amount) or not -LARGEST_AMOUNT <= amount <= LARGEST_AMOUNT:
            raise InvalidAmount("the amount is not an integer from -1,000,000 to 1,000,000")
        marks = tuple([mark + amount for mark in self.ring()])
        return self._advance("shift", marks, self.pinned())

    def turn(self, count):
        """Turn the ring so that this seat becomes seat 0, and return the marks."""
        marks = self.ring()
        if not is_seat(count, len(marks)):
            raise InvalidAmount("the ring has no such seat")
        pins = sorted([(pin - count) % len(marks) for pin in self.pinned()])
        return self._advance("turn", marks[count:] + marks[:count], tuple(pins))

    def repeat(self, block, times):
        """Execute a block a number of times and return the marks."""
        marks, pins = self.ring(), self.pinned()
        check_moves(block, len(marks), pins)
        check_times(times)
        return self._advance("repeat", repeat_seats(marks, block, times), pins)

    def undo(self):
        """Undo the last operation in effect and return whether there was one."""
        if self._place == 0:
            return False
        self._place -= 1
        return True

    def redo(self):
        """Repeat the operation that was undone last and return whether there was one."""
        if self._place == len(self._states) - 1:
            return False
        self._place += 1
        return True

    def ring(self):
        """Return the marks."""
        return self._states[self._place][1]

    def pinned(self):
        """Return the pinned seats."""
        return self._states[self._place][2]

    def operations(self):
        """Return the list of the words of all operations in effect."""
        return [state[0] for state in self._states[1:self._place + 1]]

    def reaches(self, marks):
        """Return whether reflections of seats that are not pinned lead to a ring."""
        check_ring(marks)
        pins = self.pinned()
        if pins == ():
            return difference_between(self.ring(), marks) is None
        return pinned_difference_between(self.ring(), marks, pins) is None

    def save(self, name):
        """Save the complete state under a name."""
        check_name(name)
        self._snapshots[name] = (self._states, self._place)

    def restore(self, name):
        """Restore the state that was saved under a name."""
        if not isinstance(name, str) or name not in self._snapshots:
            raise UnknownName("there is no snapshot of this name")
        self._states, self._place = self._snapshots[name]

    def batch(self, operations):
        """Execute all operations or none, and return the list of their results."""
        check_operations(operations)
        states, place = self._states, self._place
        try:
            return [self._execute(operation) for operation in operations]
        except MarkError:
            self._states, self._place = states, place
            raise

    def _advance(self, word, marks, pins):
        """Take over the state after an operation and return its marks."""
        # What has been undone cannot be repeated any more.
        self._states = self._states[:self._place + 1] + ((word, marks, pins),)
        self._place += 1
        return marks

    def _execute(self, operation):
        """Execute a well-formed operation and return its result."""
        match operation:
            case ("reflect", seat):
                return self.reflect(seat)
            case ("pin", pins):
                return self.pin(pins)
            case ("shift", amount):
                return self.shift(amount)
            case ("turn", count):
                return self.turn(count)
            case ("repeat", block, times):
                return self.repeat(block, times)
            case ("undo",):
                return self.undo()
            case ("redo",):
                return self.redo()


def replay(marks, operations):
    """Return a new workbench after executing the operations."""
    workbench = Workbench(marks)
    if not isinstance(operations, list):
        raise InvalidOperation(0)
    for position, operation in enumerate(operations):
        try:
            workbench.batch([operation])
        except MarkError as error:
            raise InvalidOperation(position) from error
    return workbench


def is_operation(value):
    """Tell whether a value is a tuple of a word and the right number of arguments."""
    if not isinstance(value, tuple) or value == () or not isinstance(value[0], str):
        return False
    return ARGUMENTS.get(value[0]) == len(value) - 1


def check_operations(operations):
    """Raise InvalidOperation if this is not a list of well-formed operations."""
    if not isinstance(operations, list):
        raise InvalidOperation(0)
    for position, operation in enumerate(operations):
        if not is_operation(operation):
            raise InvalidOperation(position)


def check_name(name):
    """Raise InvalidName if this is not a name of a snapshot."""
    if not isinstance(name, str) or not 1 <= len(name) <= LONGEST_NAME:
        raise InvalidName("the name does not have one to eight letters")
    for letter in name:
        if not "a" <= letter <= "z":
            raise InvalidName("the name has other characters than the letters a to z")
