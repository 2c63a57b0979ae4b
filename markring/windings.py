"""Steps that go round the ring, by which all marks change alike.

A step that goes round to the left adds itself to all marks, and one that goes
round to the right subtracts itself. As many go round to the left as to the
right. A winding tells how often a step goes round to the left.
"""

from markring.orders import exchange_places


def find_windings(steps, change):
    """Return windings that change all marks by a multiple of the modulus.

    Not all steps are equal.
    """
    rows = combine_rows(difference_rows(steps))
    modulus, windings = rows[-1]
    many = change // modulus
    # Idle windings change no mark, so that others may be shortened by them.
    idle = shorten_idle([row[1] for row in rows[:-1]])
    return shorten_windings([many * winding for winding in windings], idle)


def difference_rows(steps):
    """Return for each other step what it changes against the first one, and how."""
    rows = []
    for place in range(1, len(steps)):
        windings = [0] * len(steps)
        windings[0] = -1
        windings[place] = 1
        rows.append((steps[place] - steps[0], windings))
    return rows


def combine_rows(rows):
    """Return rows of which only the last one changes the marks, by the modulus."""
    rows = sort_rows(rows)
    # This is Euclid's algorithm for several numbers.
    while rows[-2][0] != 0:
        many = rows[-1][0] // rows[-2][0]
        change = rows[-1][0] - many * rows[-2][0]
        windings = subtract_windings(rows[-1][1], rows[-2][1], many)
        rows = sort_rows(rows[:-1] + [(change, windings)])
    return rows


def sort_rows(rows):
    """Return the rows ordered by the size of the change."""
    return sorted(rows, key=lambda row: abs(row[0]))


def subtract_windings(windings, others, many):
    """Return the windings without a multiple of other ones."""
    return [winding - many * other for winding, other in zip(windings, others)]


def shorten_idle(idle):
    """Return idle windings of which none can be shortened by one of the others."""
    found = list(idle)
    before = []
    while found != before:
        before = list(found)
        for place, windings in enumerate(before):
            found[place] = shorten_windings(windings, found[:place] + found[place + 1:])
    return found


def shorten_windings(windings, idle):
    """Return the windings without multiples of idle ones that make them longer."""
    before = []
    while windings != before:
        before = windings
        for others in idle:
            many = nearest_quotient(add_products(windings, others), add_products(others, others))
            shorter = subtract_windings(windings, others, many)
            if add_products(shorter, shorter) < add_products(windings, windings):
                windings = shorter
    return windings


def nearest_quotient(number, divisor):
    """Return an integer nearest to the quotient."""
    return (2 * number + divisor) // (2 * divisor)


def add_products(windings, others):
    """Return the sum of the products of the windings."""
    return sum([winding * other for winding, other in zip(windings, others)])


def winding_places(windings):
    """Return places whose exchanges let each step go round by its winding."""
    ahead = list(windings)
    places = []
    while any(ahead):
        left = ahead.index(max(ahead))
        right = ahead.index(min(ahead))
        times = min(ahead[left], -ahead[right])
        places.extend(round_trip(len(ahead), left, right) * times)
        ahead[left] -= times
        ahead[right] += times
    return places


def round_trip(length, left, right):
    """Return places whose exchanges let one step go round to the left, one to the right."""
    ways = [0] * length
    ways[left] = -length
    ways[right] = length
    return exchange_places(ways)
