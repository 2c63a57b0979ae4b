"""Rings, their steps and the modulus of their steps."""

from math import gcd

from markring.checks import FEWEST_SEATS, check_ring, first_invalid, is_whole
from markring.errors import InvalidMarks, InvalidSteps

LARGEST_STEP = 2000000


def find_steps(marks):
    """Return the tuple of the steps of all seats."""
    check_ring(marks)
    return steps_between(marks)


def build_ring(first, steps):
    """Return the ring with this first mark and these steps."""
    # The document names the errors of the second argument first.
    check_steps(steps)
    if not is_whole(first):
        raise InvalidMarks(0)
    marks = marks_along(first, steps)
    check_ring(marks)
    return marks


def find_modulus(marks):
    """Return the greatest common divisor of all differences between steps."""
    check_ring(marks)
    return step_modulus(steps_between(marks))


def steps_between(marks):
    """Return the steps of marks that may lie beyond the limits of a ring."""
    length = len(marks)
    return tuple([marks[(seat + 1) % length] - marks[seat] for seat in range(length)])


def step_modulus(steps):
    """Return the greatest common divisor of all differences between the steps."""
    modulus = 0
    # Each difference between two steps is one of two differences to the first.
    for step in steps:
        modulus = gcd(modulus, step - steps[0])
    return modulus


def marks_along(first, steps):
    """Return the marks that these steps lead to, which may be too large."""
    marks = [first]
    # The last step leads back to the first mark.
    for step in steps[:-1]:
        marks.append(marks[-1] + step)
    return tuple(marks)


def check_steps(steps):
    """Raise InvalidSteps if these are not the steps of a ring."""
    if not isinstance(steps, tuple):
        raise InvalidSteps(0)
    position = first_invalid(steps, LARGEST_STEP)
    if position is not None:
        raise InvalidSteps(position)
    if len(steps) < FEWEST_SEATS or sum(steps) != 0:
        raise InvalidSteps(len(steps))
