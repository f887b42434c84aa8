"""How many questions the sorts of all orders of different keys ask together.

The rank of an item is how many of the items ahead of it have lesser keys. In
all orders together the ranks of an item at index i are the integers from 0 to
i, whatever the ranks of the others are; and the run is told by ranks alone.
"""

from askedorder.halving import fewest_of_halving, most_of_halving, total_of_halving


def sum_over_orders(many):
    """Returns how many questions the sorts of all orders of 0 to 63 different keys ask together."""
    if many < 2:
        return 0
    # `ways` counts the orders of the first items whose run has come to its
    # end, `total` their questions.
    ways = 0
    total = 0
    for index in range(2, many):
        broken_ways, broken_total = _runs_broken_at(index)
        total = total * (index + 1) + ways * total_of_halving(index) + broken_total
        ways = ways * (index + 1) + broken_ways
    return total + _total_of_whole_runs(many)


def _runs_broken_at(index):
    """Returns (ways, questions) of the orders whose run ends ahead of an index, the item there being placed."""
    # A run that rises from the beginning is broken by any item but a greatest one.
    asked_if_not_last = total_of_halving(index) - fewest_of_halving(index)
    rising = index * (index + 1) + asked_if_not_last
    # One that falls, and then rises behind its item at one of the indexes from
    # 2 on, likewise; one that falls up to the index only if the item there is
    # not less than all others either.
    turned = (index - 2) * (index * (index + 2) + asked_if_not_last)
    falling = (index - 1) * (index + 2) + asked_if_not_last - most_of_halving(index)
    ways = index + (index - 2) * index + index - 1
    return ways, rising + turned + falling


def _total_of_whole_runs(many):
    """Returns how many questions the orders ask that are one run: one rises, one falls, others do both."""
    return 2 * (many - 1) + (many - 2) * (many + 1)
