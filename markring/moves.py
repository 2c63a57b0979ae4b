"""Reflections of seats, some of which may be pinned."""

from markring.checks import check_moves, check_pins, check_ring


def apply_moves(marks, seats, *, pins=()):
    """Return the ring after reflecting the seats of a list in order."""
    check_ring(marks)
    check_pins(pins, len(marks))
    check_moves(seats, len(marks), pins)
    return reflect_seats(marks, seats)


def active_seats(marks, *, pins=()):
    """Return the list of the seats whose reflection changes the ring."""
    check_ring(marks)
    check_pins(pins, len(marks))
    active = []
    for seat in range(len(marks)):
        if seat not in pins and reflected_mark(marks, seat) != marks[seat]:
            active.append(seat)
    return active


def reflected_mark(marks, seat):
    """Return the mark that a seat has after its reflection."""
    following = (seat + 1) % len(marks)
    # Before seat 0 comes the last seat, which is what the index -1 means.
    return marks[seat - 1] + marks[following] - marks[seat]


def reflect_seats(marks, seats):
    """Return the ring after reflecting seats that have been checked."""
    changed = list(marks)
    for seat in seats:
        changed[seat] = reflected_mark(changed, seat)
    return tuple(changed)
