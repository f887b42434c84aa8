"""Rows in blocks: long rows, whose sort is told without going through their items."""

from askedorder.blocksort import BlockSort
from askedorder.checks import MOST_KEYS, check_bool, is_integer, is_within
from askedorder.errors import InvalidBlocks, TooLarge
from askedorder.stretches import size_of, stretches_of_blocks, turned_about, values_of

MOST_BLOCKS = 40
LONGEST_BLOCK = 10 ** 18


def keys_of_blocks(blocks):
    """Returns the least keys, from 0 on, of a row in blocks."""
    _check_blocks(blocks)
    stretches = stretches_of_blocks(blocks)
    if size_of(stretches) > MOST_KEYS:
        raise TooLarge(MOST_KEYS)
    return values_of(stretches)


def count_blocks(blocks, *, reverse=False):
    """Returns the number of questions of the whole sort."""
    return _sort_of(blocks, reverse).count_all()


def pieces_of_blocks(blocks, *, reverse=False):
    """Returns the pieces as they come on the stack, as tuples (found, length, finding, placing)."""
    return _sort_of(blocks, reverse).found_pieces


def joins_of_blocks(blocks, *, reverse=False):
    """Returns the joins as they happen, as tuples (start, first, second, count, patience)."""
    return _sort_of(blocks, reverse).done_joins


def _sort_of(blocks, reverse):
    _check_blocks(blocks)
    check_bool("reverse", reverse)
    stretches = stretches_of_blocks(blocks)
    return BlockSort(turned_about(stretches) if reverse else stretches)


def _check_blocks(blocks):
    if not isinstance(blocks, (list, tuple)) or not 1 <= len(blocks) <= MOST_BLOCKS:
        raise InvalidBlocks(-1)
    for index, block in enumerate(blocks):
        if not _is_block(block):
            raise InvalidBlocks(index)
    for index, (key, _, word) in enumerate(blocks):
        for other, _, other_word in blocks[:index]:
            if key == other and (word != "equal" or other_word != "equal"):
                raise InvalidBlocks(index)


def _is_block(value):
    if not isinstance(value, tuple) or len(value) != 3:
        return False
    key, times, word = value
    is_word = isinstance(word, str) and word in ("equal", "rising", "falling")
    return is_integer(key) and is_within(times, 1, LONGEST_BLOCK) and is_word
