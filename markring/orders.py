"""Orders of steps: exchanges that lead from one to another, and their ranks."""

from math import factorial


def arranging_places(steps, goal):
    """Return a shortest list of places whose exchanges turn the steps into the goal.

    The exchange of a place is that of its step and the step before it.
    """
    targets = find_targets(steps, goal)
    return exchange_places([target - place for place, target in enumerate(targets)])


def find_targets(steps, goal):
    """Return for each step its place in the goal, which has the same steps."""
    places = {}
    for place, step in enumerate(goal):
        places.setdefault(step, []).append(place)
    # Equal steps keep their order, since exchanging them is in vain.
    return [places[step].pop(0) for step in steps]


def exchange_places(ways):
    """Return the places whose exchanges move each step to the right by its way.

    A way below 0 leads to the left. The places form a ring: the exchange of
    place 0 is that of the first and the last step, and a way may go round.
    """
    ahead = list(ways)
    places = []
    while any(ahead):
        for place in range(len(ways)):
            left, right = ahead[place - 1], ahead[place]
            # Only then the two steps have to pass each other at some time.
            if left > right:
                ahead[place - 1], ahead[place] = right + 1, left - 1
                places.append(place)
    return places


def count_orders(steps):
    """Return the number of different orders of these steps."""
    number = factorial(len(steps))
    for step in sorted(set(steps)):
        number //= factorial(steps.count(step))
    return number


def rank_order(steps):
    """Return the number of smaller orders of the same steps."""
    rank = 0
    for place, step in enumerate(steps):
        for smaller in sorted(set(steps[place:])):
            if smaller < step:
                rank += count_orders(without_step(steps[place:], smaller))
    return rank


def order_at(steps, rank):
    """Return the order of these steps to which this number of orders is smaller."""
    for step in sorted(set(steps)):
        others = without_step(steps, step)
        number = count_orders(others)
        if rank < number:
            return [step] + order_at(others, rank)
        rank -= number
    return []


def list_orders(steps):
    """Return the list of all different orders of these steps."""
    if not steps:
        return [[]]
    orders = []
    for step in sorted(set(steps)):
        for others in list_orders(without_step(steps, step)):
            orders.append([step] + others)
    return orders


def without_step(steps, step):
    """Return the list of steps with one step of this value less."""
    others = list(steps)
    others.remove(step)
    return others
