"""How heaps of so many items are built, and what is asked in them, told without going through their items."""

from math import comb


def left_size(many):
    """Returns how many of two items or more of a heap stand below the left child of the first one, or are it."""
    half = 1 << (many.bit_length() - 2)
    on_lowest = many - (2 * half - 1)
    return half - 1 + min(on_lowest, half)


def size_below(place, many):
    """Returns how many of so many items stand below a place, or at it."""
    size = 0
    first = place
    last = place
    while first < many:
        size += min(last, many - 1) - first + 1
        first = 2 * first + 1
        last = 2 * last + 2
    return size


def fewest_of_sink(many):
    """Returns how many questions a sink from the first one of so many items asks at least."""
    lowest = many.bit_length() - 1
    if lowest < 1:
        return 0
    # Each step down asks one question, if there are two children, and then
    # the rise asks one; some way is one step shorter, or has a single child
    # at its end, unless the lowest level is full.
    is_full = many == 2 * (1 << lowest) - 1
    return lowest + 1 if is_full else lowest


def most_of_sink(many):
    """Returns how many questions a sink from the first one of so many items asks at most."""
    lowest = many.bit_length() - 1
    if lowest < 1:
        return 0
    # With a single item on the lowest level no question leads to it.
    is_single = many == 1 << lowest
    return 2 * lowest - 1 if is_single else 2 * lowest


def sum_of_sinks(many, of_sink):
    """Returns the sum of what is asked by the sinks from all places, `of_sink` being one of the functions above."""
    return _sum_of_sinks(many, of_sink, {})


def _sum_of_sinks(many, of_sink, known):
    if many < 2:
        return 0
    if many not in known:
        left = left_size(many)
        below = _sum_of_sinks(left, of_sink, known) + _sum_of_sinks(many - 1 - left, of_sink, known)
        known[many] = of_sink(many) + below
    return known[many]


def number_of_heaps(many):
    """Returns how many orders of so many items are heaps."""
    return _number_of_heaps(many, {})


def _number_of_heaps(many, known):
    if many < 2:
        return 1
    if many not in known:
        left = left_size(many)
        below = _number_of_heaps(left, known) * _number_of_heaps(many - 1 - left, known)
        known[many] = comb(many - 1, left) * below
    return known[many]


def number_beginning_with(ahead, many):
    """Returns how many heaps of so many items begin with these keys; there has to be one at least.

    The places behind them form parts, below the children of those ahead. The
    keys of a part are greater than the key that stands above it, so that the
    part below the greatest such key has the least choice, and chooses first.
    """
    is_free = [True] * many
    for key in ahead:
        is_free[key] = False
    places = range(len(ahead), min(2 * len(ahead) + 1, many))
    parts = sorted([(ahead[(place - 1) // 2], size_below(place, many)) for place in places], reverse=True)
    number = 1
    chosen = 0
    for above, size in parts:
        choice = sum(is_free[above + 1:]) - chosen
        number *= comb(choice, size) * number_of_heaps(size)
        chosen += size
    return number
