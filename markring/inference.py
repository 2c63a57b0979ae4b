"""Hidden rings, about which observations tell more and more."""

from markring.checks import check_seat, is_whole
from markring.errors import Contradiction, InvalidMarks, InvalidSign, TooManyRings
from markring.moves import reflected_mark
from markring.pinned import check_pinned_ring, count_rings, list_rings

MOST_RINGS = 2000


class HiddenRing:
    """One of the rings that are reachable from a ring with pinned seats."""

    def __init__(self, marks, pins):
        check_pinned_ring(marks, pins)
        if count_rings(marks, pins) > MOST_RINGS:
            raise TooManyRings("more than 2,000 rings are reachable")
        self._length = len(marks)
        self._candidates = sorted(list_rings(marks, pins))
        self._history = []

    def observe_mark(self, seat, mark):
        """Record the mark of a seat and return the number of candidates."""
        check_seat(seat, self._length)
        if not is_whole(mark):
            raise InvalidMarks(0)
        remaining = [ring for ring in self._candidates if ring[seat] == mark]
        return self._accept(("mark", seat, mark), remaining)

    def observe_sign(self, seat, sign):
        """Record how reflecting a seat would change its mark, and return the number."""
        check_seat(seat, self._length)
        if not is_whole(sign) or not -1 <= sign <= 1:
            raise InvalidSign("the sign is not 1, 0 or -1")
        remaining = [ring for ring in self._candidates if reflection_sign(ring, seat) == sign]
        return self._accept(("sign", seat, sign), remaining)

    def candidates(self):
        """Return the ascending list of all candidates."""
        return list(self._candidates)

    def marks_at(self, seat):
        """Return the ascending list of the marks of a seat in candidates."""
        check_seat(seat, self._length)
        return sorted({ring[seat] for ring in self._candidates})

    def known_marks(self):
        """Return the marks that all candidates share, with None for the others."""
        known = []
        for seat in range(self._length):
            marks = self.marks_at(seat)
            known.append(marks[0] if len(marks) == 1 else None)
        return tuple(known)

    def differing_pair(self, seat):
        """Return the first two candidates that differ at a seat, or None."""
        check_seat(seat, self._length)
        first = self._candidates[0]
        for ring in self._candidates:
            if ring[seat] != first[seat]:
                return (first, ring)
        return None

    def best_seat(self):
        """Return the seat whose mark leaves the fewest candidates in the worst case."""
        numbers = [self._worst_number(seat) for seat in range(self._length)]
        return numbers.index(min(numbers))

    def history(self):
        """Return the list of all accepted observations."""
        return list(self._history)

    def _accept(self, observation, remaining):
        """Keep the remaining candidates and return their number."""
        if not remaining:
            raise Contradiction("no candidate agrees with the observation")
        self._candidates = remaining
        self._history.append(observation)
        return len(remaining)

    def _worst_number(self, seat):
        """Return the largest number of candidates with the same mark at a seat."""
        marks = [ring[seat] for ring in self._candidates]
        return max([marks.count(mark) for mark in self.marks_at(seat)])


def reflection_sign(marks, seat):
    """Return 1, 0 or -1 if reflecting a seat raises, keeps or lowers its mark."""
    mark = reflected_mark(marks, seat)
    if mark > marks[seat]:
        return 1
    if mark < marks[seat]:
        return -1
    return 0
