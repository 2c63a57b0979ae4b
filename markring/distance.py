"""Shortest lists of reflections that lead from one ring to another."""

from markring.checks import check_ring, is_whole
from markring.errors import InvalidLimit, TooFar
from markring.moves import reflect_seats
from markring.reachability import check_reachable

LARGEST_LIMIT = 8


def shortest_moves(first, second, limit):
    """Return a shortest list of seats that leads from one ring to the other."""
    check_ring(first)
    check_ring(second)
    check_limit(limit)
    check_reachable(first, second)
    seats = search_moves(first, second, limit)
    if seats is None:
        raise TooFar("the shortest list is longer than the limit")
    return seats


def min_moves(first, second, limit):
    """Return the length of a shortest list of seats."""
    return len(shortest_moves(first, second, limit))


def check_limit(limit):
    """Raise InvalidLimit if this is not a limit."""
    if not is_whole(limit) or not 0 <= limit <= LARGEST_LIMIT:
        raise InvalidLimit("the limit is not an integer from 0 to 8")


def search_moves(first, second, limit):
    """Return a shortest list of seats, or None if it is longer than the limit."""
    paths = {first: []}
    paths_back = {second: []}
    newest, newest_back = [first], [second]
    for length in range(limit + 1):
        for ring in newest:
            if ring in paths_back:
                # A reflection undoes itself, so the way back is the list backwards.
                return paths[ring] + paths_back[ring][::-1]
        # Going on from both ends in turn meets far fewer rings than from one.
        if length % 2 == 0:
            newest = widen_paths(paths, newest)
        else:
            newest_back = widen_paths(paths_back, newest_back)
    return None


def widen_paths(paths, newest):
    """Add the paths to rings one reflection further and return these rings."""
    found = []
    for ring in newest:
        for seat in range(len(ring)):
            neighbor = reflect_seats(ring, [seat])
            if neighbor not in paths:
                paths[neighbor] = paths[ring] + [seat]
                found.append(neighbor)
    return found
