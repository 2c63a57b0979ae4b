"""Blocks of reflections that are executed again and again."""

from markring.checks import check_moves, check_ring, check_seat, check_times
from markring.moves import reflect_seats
from markring.rings import steps_between


def repeat_block(marks, block, times):
    """Return the ring after a block has been executed a number of times."""
    check_block(marks, block)
    check_times(times)
    return repeat_seats(marks, block, times)


def block_drift(marks, block):
    """Return after how many blocks all steps are as before, and the change of the marks."""
    check_block(marks, block)
    rings = rings_of_round(marks, block)
    return (len(rings) - 1, rings[-1][0] - marks[0])


def block_period(marks, block):
    """Return after how many blocks the ring is as before, or None."""
    number, change = block_drift(marks, block)
    # A change that is not 0 adds up, so that the marks never come back.
    if change != 0:
        return None
    return number


def first_time(marks, block, seat, mark):
    """Return the smallest number of blocks after which a seat has a mark, or None."""
    check_block(marks, block)
    check_seat(seat, len(marks))
    rings = rings_of_round(marks, block)
    number, change = len(rings) - 1, rings[-1][0] - marks[0]
    found = []
    for time, ring in enumerate(rings[:-1]):
        rounds = rounds_until(mark - ring[seat], change)
        if rounds is not None:
            found.append(rounds * number + time)
    return min(found, default=None)


def is_identity(length, block):
    """Tell whether a block changes no ring with this number of seats."""
    # Reflected marks are sums of multiples of marks. So a block that keeps
    # all rings with a single 1 among zeros keeps all other rings, too.
    for seat in range(length):
        marks = (0,) * seat + (1,) + (0,) * (length - seat - 1)
        if reflect_seats(marks, block) != marks:
            return False
    return True


def check_block(marks, block):
    """Raise InvalidMarks or InvalidMove if these are not a ring and a block."""
    check_ring(marks)
    check_moves(block, len(marks), ())


def repeat_seats(marks, block, times):
    """Return the ring after a block and a number of times that have been checked."""
    rings = rings_of_round(marks, block)
    rounds, rest = divmod(times, len(rings) - 1)
    change = rounds * (rings[-1][0] - marks[0])
    return tuple([mark + change for mark in rings[rest]])


def rings_of_round(marks, block):
    """Return the rings after no block, after one and so on, until all steps are as before."""
    steps = steps_between(marks)
    rings = [marks, reflect_seats(marks, block)]
    # A block exchanges steps, so that they are as before at some time.
    while steps_between(rings[-1]) != steps:
        rings.append(reflect_seats(rings[-1], block))
    return rings


def rounds_until(distance, change):
    """Return how many changes, from 0, make up a distance, or None."""
    if distance == 0:
        return 0
    if change == 0 or distance % change != 0 or distance // change < 0:
        return None
    return distance // change
