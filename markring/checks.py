"""Checks of arguments that several modules share."""

from markring.errors import InvalidIndex, InvalidMarks, InvalidMove, InvalidPins, InvalidTimes

FEWEST_SEATS = 3
MOST_SEATS = 8
LARGEST_MARK = 1000000
MOST_TIMES = 10 ** 18


def is_whole(value):
    """Tell whether a value is an integer of the document."""
    # Python counts True and False as integers, the document does not.
    return isinstance(value, int) and not isinstance(value, bool)


def is_seat(value, length):
    """Tell whether a value is a seat of a ring with this number of seats."""
    return is_whole(value) and 0 <= value < length


def check_seat(seat, length):
    """Raise InvalidIndex if a ring of this length has no such seat."""
    if not is_seat(seat, length):
        raise InvalidIndex("the ring has no such seat")


def first_invalid(values, largest):
    """Return the position of the first value that a ring cannot have, or None."""
    for position, value in enumerate(values):
        if position == MOST_SEATS:
            return position
        if not is_whole(value) or not -largest <= value <= largest:
            return position
    return None


def check_ring(marks):
    """Raise InvalidMarks if the marks are not a ring."""
    if not isinstance(marks, tuple):
        raise InvalidMarks(0)
    position = first_invalid(marks, LARGEST_MARK)
    if position is not None:
        raise InvalidMarks(position)
    if len(marks) < FEWEST_SEATS:
        raise InvalidMarks(len(marks))


def check_pins(pins, length):
    """Raise InvalidPins if these are not pinned seats of a ring of this length."""
    if not isinstance(pins, tuple):
        raise InvalidPins("the pinned seats are not a tuple")
    # The lowest seat that may come next, which excludes duplicates, too.
    lowest = 0
    for pin in pins:
        if not is_seat(pin, length) or pin < lowest:
            raise InvalidPins("the pinned seats are not seats in ascending order")
        lowest = pin + 1


def check_some_pins(pins, length):
    """Raise InvalidPins if these are not one or more pinned seats."""
    check_pins(pins, length)
    if pins == ():
        raise InvalidPins("no seat is pinned")


def check_moves(seats, length, pins):
    """Raise InvalidMove if this is not a list of seats that may be reflected."""
    if not isinstance(seats, list):
        raise InvalidMove(0, "seat")
    for position, seat in enumerate(seats):
        if not is_seat(seat, length):
            raise InvalidMove(position, "seat")
        if seat in pins:
            raise InvalidMove(position, "pinned")


def check_times(times):
    """Raise InvalidTimes if a block cannot be executed so often."""
    if not is_whole(times) or not 0 <= times <= MOST_TIMES:
        raise InvalidTimes("the number of times is not an integer from 0 to 10 ** 18")
