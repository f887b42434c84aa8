"""Levels: which pieces of a row are joined, and what the joins cost."""

from askedorder.checks import check_lengths, check_number
from askedorder.errors import Mismatch, TooLarge
from askedorder.piecestack import PieceStack, level_between
from askedorder.ways import is_way_of, least_table, way_by_cuts

MOST_LENGTHS = 200
MOST_WEIGHED = 40


def level(start, first, second, whole):
    """Returns the level of the border between two neighbouring pieces."""
    check_number("start", start, 0)
    check_number("first", first, 1)
    check_number("second", second, 1)
    check_number("whole", whole, start + first + second)
    return level_between(start, first, second, whole)


def levels(lengths):
    """Returns the levels of all borders between neighbours, as they came."""
    _check_pieces(lengths)
    whole = sum(lengths)
    found = []
    start = 0
    for index in range(len(lengths) - 1):
        found.append(level_between(start, lengths[index], lengths[index + 1], whole))
        start += lengths[index]
    return found


def stack(lengths):
    """Returns for each length the pieces on the stack right behind its piece was put there."""
    _check_pieces(lengths)
    stacks, _, _ = _pile_up(lengths)
    return stacks


def depth(lengths):
    """Returns the greatest number of pieces that are on the stack at one time."""
    _check_pieces(lengths)
    stacks, _, _ = _pile_up(lengths)
    return max([len(pieces) for pieces in stacks])


def merges(lengths):
    """Returns (joins that make room for pieces that come, joins behind the last piece)."""
    _check_pieces(lengths)
    _, amid, at_end = _pile_up(lengths)
    return amid, at_end


def cost(lengths):
    """Returns the sum of both lengths over all joins."""
    _check_pieces(lengths)
    return sum([first + second for _, first, second in _all_joins(lengths)])


def rounds(lengths):
    """Returns for each piece in how many of the joins it is a part of one of the two pieces."""
    _check_pieces(lengths)
    joins = _all_joins(lengths)
    counts = []
    place = 0
    for length in lengths:
        counts.append(len([start for start, first, second in joins if start <= place < start + first + second]))
        place += length
    return counts


def least_cost(lengths):
    """Returns the least sum of both lengths over all joins that a way can have."""
    _check_few_pieces(lengths)
    costs, _ = least_table(lengths)
    return costs[0, len(lengths)]


def least_way(lengths):
    """Returns a way that costs as little as can be, as a list of tuples (start, first, second)."""
    _check_few_pieces(lengths)
    _, cuts = least_table(lengths)
    return way_by_cuts(lengths, cuts, 0, len(lengths))


def is_way(lengths, joins):
    """Returns whether any object is a way of pieces with these lengths."""
    _check_pieces(lengths)
    return is_way_of(lengths, joins)


def first_unlike(lengths, joins):
    """Returns the place of the first entry of a way that is not the join that the sort does there, or None."""
    _check_pieces(lengths)
    if not is_way_of(lengths, joins):
        raise Mismatch("joins")
    for place, done in enumerate(_all_joins(lengths)):
        if joins[place] != done:
            return place
    return None


def _all_joins(lengths):
    _, amid, at_end = _pile_up(lengths)
    return amid + at_end


def _pile_up(lengths):
    """Returns (stacks, amid, at_end): the stack behind each piece, and the joins of both kinds."""
    piles = PieceStack(sum(lengths))
    stacks = []
    amid = []
    start = 0
    for length in lengths:
        border = piles.border_to(length) if piles.piled else None
        while border is not None and piles.has_to_join(border):
            amid.append(piles.join_at(len(piles.piled) - 2))
        piles.put(start, length, border)
        stacks.append(list(piles.piled))
        start += length
    at_end = []
    while len(piles.piled) > 1:
        at_end.append(piles.join_at(piles.next_to_join()))
    return stacks, amid, at_end


def _check_pieces(lengths):
    check_lengths(lengths, 1, MOST_LENGTHS)


def _check_few_pieces(lengths):
    _check_pieces(lengths)
    if len(lengths) > MOST_WEIGHED:
        raise TooLarge(MOST_WEIGHED)
