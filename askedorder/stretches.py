"""Rows that are told by stretches of items.

A stretch is a tuple (value, many, step): the value of its first item, how many
items it has, and by how much each further value differs: 1, 0 or -1. In a row
of blocks the values of two stretches are all unlike, without any of the one
between those of the other, or all of both are the same one.
"""


def stretches_of_blocks(blocks):
    """Returns the row of blocks, its values being the smallest integers from 0 on that can be."""
    widths = {key: 1 if word == "equal" else times for key, times, word in blocks}
    least = {}
    below = 0
    for key in sorted(widths):
        least[key] = below
        below += widths[key]
    return [_stretch_of_block(least[key], times, word) for key, times, word in blocks]


def _stretch_of_block(least, times, word):
    if word == "falling":
        return least + times - 1, times, -1
    return least, times, 1 if word == "rising" else 0


def size_of(stretches):
    return sum([many for _, many, _ in stretches])


def values_of(stretches):
    """Returns the values of all items, one by one."""
    return [value + step * index for value, many, step in stretches for index in range(many)]


def value_at(stretches, place):
    """Returns the value of the item at a place of a row."""
    _, behind = cut_at(stretches, place)
    return behind[0][0]


def turned_about(stretches):
    """Returns the row with its items in the opposite order."""
    return [(value + (many - 1) * step, many, -step) for value, many, step in stretches[::-1]]


def cut_at(stretches, place):
    """Returns (ahead, behind): the row up to a place, and from this place on."""
    ahead = []
    behind = []
    left = place
    for value, many, step in stretches:
        size = min(many, left)
        if size > 0:
            ahead.append((value, size, step))
        if size < many:
            behind.append((value + size * step, many - size, step))
        left -= size
    return ahead, behind


def moves_of(stretches):
    """Returns how the values go on from item to item, as tuples (move, many).

    A move is 1 if the next value is greater, 0 if it is equal, -1 if it is less.
    """
    moves = []
    last = None
    for value, many, step in stretches:
        if last is not None:
            moves.append(((value > last) - (value < last), 1))
        if many > 1:
            moves.append((step, many - 1))
        last = value + (many - 1) * step
    return moves


def interleaved(first, second):
    """Returns (joined, lengths) of two sorted rows: the sorted row of both, and how it is made of them.

    The lengths tell how many items of first stand ahead in it, how many of
    second come then, how many of first, and so on.
    """
    tagged = [(value, 0, many, step) for value, many, step in first]
    tagged += [(value, 1, many, step) for value, many, step in second]
    tagged = sorted(tagged)
    lengths = [0]
    for _, side, many, _ in tagged:
        if side == len(lengths) % 2:
            lengths.append(0)
        lengths[-1] += many
    return [(value, many, step) for value, _, many, step in tagged], lengths
