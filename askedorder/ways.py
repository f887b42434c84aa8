"""Ways: rows of joins of neighbouring pieces, behind which one piece is left."""

from askedorder.checks import is_integer


def least_table(lengths):
    """Returns (costs, cuts) of all stretches of neighbouring pieces, by tuples (low, high).

    A stretch has the pieces from low to high - 1. Its cost is the least one of
    a way that makes one piece of it, its cut the first place at which the
    costs of the parts ahead of it and behind it are together the least.
    """
    many = len(lengths)
    costs = {(low, low + 1): 0 for low in range(many)}
    cuts = {}
    for size in range(2, many + 1):
        for low in range(many - size + 1):
            high = low + size
            parts = [costs[low, cut] + costs[cut, high] for cut in range(low + 1, high)]
            least = min(parts)
            cuts[low, high] = low + 1 + parts.index(least)
            costs[low, high] = least + sum(lengths[low:high])
    return costs, cuts


def way_by_cuts(lengths, cuts, low, high):
    """Returns the joins that make one piece of the pieces from low to high - 1."""
    if high - low < 2:
        return []
    cut = cuts[low, high]
    ahead = way_by_cuts(lengths, cuts, low, cut)
    behind = way_by_cuts(lengths, cuts, cut, high)
    last = (sum(lengths[:low]), sum(lengths[low:cut]), sum(lengths[cut:high]))
    return [*ahead, *behind, last]


def is_way_of(lengths, joins):
    """Returns whether any object is a way of pieces with these lengths."""
    if not isinstance(joins, (list, tuple)) or len(joins) != len(lengths) - 1:
        return False
    # So many joins leave a single piece, if each one joins two that there are.
    pieces = {}
    start = 0
    for length in lengths:
        pieces[start] = length
        start += length
    for entry in joins:
        if not _is_join(entry, pieces):
            return False
        start, first, second = entry
        pieces[start] = first + second
        del pieces[start + first]
    return True


def _is_join(entry, pieces):
    """Returns whether an object tells two neighbours of the pieces, a dict of lengths by places."""
    if not isinstance(entry, tuple) or len(entry) != 3:
        return False
    start, first, second = entry
    if not is_integer(start) or not is_integer(first) or not is_integer(second):
        return False
    return pieces.get(start) == first and pieces.get(start + first) == second
