import itertools
import random
import unittest

from askedorder.blocks import count_blocks, joins_of_blocks, keys_of_blocks, pieces_of_blocks
from askedorder.counts import count_of_falling
from askedorder.errors import InvalidBlocks, InvalidNumber, TooLarge
from askedorder.joins import join_count
from askedorder.levels import merges
from askedorder.placing import placed
from askedorder.runs import run_of
from askedorder.sorting import count_of, steps_of
from tests.reference_list import sort_by_keys
from tests.values import Checking, int_within, is_int, number_error

WORDS = ("equal", "rising", "falling")
LONGEST = 10 ** 18
SORTS = (count_blocks, pieces_of_blocks, joins_of_blocks)

reverse_error = number_error("reverse", lambda value: type(value) is bool)


def items_of(blocks):
    """The row item by item: each one by its block's key and its place in the block's order."""
    for key, times, word in blocks:
        for index in range(times):
            yield key, {"equal": 0, "rising": index, "falling": -index}[word]


def keys_by_items(blocks):
    items = list(items_of(blocks))
    ranks = {item: rank for rank, item in enumerate(sorted(set(items)))}
    return [ranks[item] for item in items]


def is_block(value):
    is_row = type(value) is tuple and len(value) == 3
    return is_row and is_int(value[0]) and int_within(1, LONGEST)(value[1]) and type(value[2]) is str and value[2] in WORDS


def blocks_error(value):
    if type(value) not in (list, tuple) or not 1 <= len(value) <= 40:
        return InvalidBlocks(-1)
    for index, block in enumerate(value):
        if not is_block(block):
            return InvalidBlocks(index)
    for index, (key, _, word) in enumerate(value):
        if any(key == other[0] and (word, other[2]) != ("equal", "equal") for other in value[:index]):
            return InvalidBlocks(index)
    return None


def wrong_blocks():
    right = (1, 2, "rising")
    entries = [
        [1, 2, "rising"], (1, 2), (1, 2, "rising", 0), (True, 2, "equal"), (1, True, "equal"), (1, 0, "equal"),
        (1, -1, "equal"), (1, LONGEST + 1, "equal"), (1, 2, "Equal"), (1, 2, b"equal"), (1, 2, ["equal"]), (1, 2, None),
        (None, 2, "equal"), ("1", 2, "equal"), ([], 2, "equal"), (1, [], "equal"), (1, 2, ""), None, 1, "equal", {}, (),
    ]
    shared = [
        [right, right], [right, (1, 2, "equal")], [(1, 1, "equal"), (1, 1, "falling")],
        [(1, 1, "falling"), (2, 1, "equal"), (2, 1, "equal"), (1, 3, "rising")],
        [(5, 1, "equal"), (5, 1, "equal"), (5, 1, "rising"), (5, 1, "equal")],
    ]
    behind = [[right, (9, 1, "equal"), entry, None] for entry in entries]
    # What is no block comes ahead of keys that are shared.
    both = [[right, right, entry] for entry in entries]
    return [[entry] for entry in entries] + behind + both + shared + [[(1, 1, "equal")] * 41, [None] * 41]


def few_blocks():
    """All rows of up to three short blocks, with keys in each order, equal ones too."""
    for many in range(1, 4):
        for keys in itertools.product(range(many), repeat=many):
            for times in itertools.product((1, 2, 3), repeat=many):
                for words in itertools.product(WORDS, repeat=many):
                    blocks = list(zip(keys, times, words))
                    if blocks_error(blocks) is None:
                        yield blocks


def random_blocks(numbers, longest):
    """A row of up to 40 blocks and 2,000 items, which some key may have many times."""
    while True:
        blocks = []
        for index in range(numbers.randrange(1, 41)):
            word = numbers.choice(WORDS)
            times = 1 if numbers.random() < 0.3 else numbers.randrange(1, longest + 1)
            key = numbers.randrange(100, 104) if word == "equal" and numbers.random() < 0.7 else 1000 + index
            blocks.append((key, times, word))
        keys = [key for key, _, _ in blocks if key >= 1000]
        order = numbers.choice([sorted(keys), sorted(keys)[::-1], numbers.sample(keys, len(keys))])
        renamed = {key: 2 * place - 60 for place, key in enumerate(order)}
        blocks = [(renamed.get(key, 2 * key - 205), times, word) for key, times, word in blocks]
        if sum(times for _, times, _ in blocks) <= 2000:
            return blocks


class Against(Checking, unittest.TestCase):
    """Against the sort of the row, item by item."""

    def check(self, blocks, reverse):
        keys = keys_by_items(blocks)
        self.assert_same(keys_of_blocks(blocks), keys)
        sort = sort_by_keys(keys, reverse)
        self.assert_same(count_blocks(blocks, reverse=reverse), len(sort.questions))
        self.assert_same(pieces_of_blocks(blocks, reverse=reverse), self.pieces(keys, sort, reverse))
        joins = []
        ahead = 0
        for step in sort.steps:
            if step[0] == "join":
                _, start, first, second, patience, count = step
                joins.append((start, first, second, count - ahead, patience))
            ahead = step[-1]
        self.assert_same(joins_of_blocks(blocks, reverse=reverse), joins)

    def pieces(self, keys, sort, reverse):
        """The pieces, with the numbers of questions of their two parts told by stages 2 and 3."""
        row = keys[::-1] if reverse else keys
        pieces = []
        for step in sort.steps:
            if step[0] == "piece":
                _, start, found, length, _ = step
                run_length, run, finding = run_of(row, start)
                self.assertEqual(run_length, found)
                placing = []
                if found < length:
                    values = [row[item] for item in run] + row[start + found:start + length]
                    _, placing = placed(values, found)
                pieces.append((found, length, len(finding), len(placing)))
        return pieces

    def test_few_short_blocks(self):
        for blocks in few_blocks():
            self.check(blocks, False)
            self.check(blocks, True)

    def test_many_blocks(self):
        numbers = random.Random(141)
        for longest in (1, 2, 3, 8, 20, 60, 120, 400, 1500):
            for _ in range(25):
                blocks = random_blocks(numbers, longest)
                self.check(blocks, False)
                self.check(blocks, True)

    def test_around_the_least_length(self):
        for times in (30, 31, 32, 33, 62, 63, 64, 65):
            for words in itertools.product(WORDS, repeat=2):
                for keys in ((0, 1, 2), (2, 1, 0), (1, 2, 0), (1, 0, 2)):
                    blocks = [(keys[0], times, words[0]), (keys[1], 1, "equal"), (keys[2], times, words[1])]
                    self.check(blocks, False)
                    self.check(blocks, True)

    def test_neighbours_with_equal_keys(self):
        for more in ([], [(2, 40, "falling")], [(-1, 40, "falling")], [(-1, 1, "equal"), (-2, 40, "rising")]):
            for lengths in itertools.product((1, 2, 33), repeat=3):
                self.check([(1, times, "equal") for times in lengths] + more, False)
                self.check(more + [(1, times, "equal") for times in lengths], True)

    def test_falling_behind_equal(self):
        """Runs that fall through blocks of all words, and what comes behind their end."""
        for word in WORDS:
            for first, last in itertools.product((1, 2, 40), repeat=2):
                for key in (-9, 2, 4, 8, 10):
                    blocks = [
                        (9, first, "equal"), (7, 3, "falling"), (5, 2, "equal"), (5, 1, "equal"), (3, 1, "rising"),
                        (1, 4, "falling"), (key, last, word), (20, 3, "falling"), (-20, 40, "rising"),
                    ]
                    self.check(blocks, False)
                    self.check(blocks, True)

    def test_short_blocks_between_long_ones(self):
        numbers = random.Random(142)
        for _ in range(30):
            keys = numbers.sample(range(40), 13)
            times = [numbers.choice([1, 2, 3]) if index % 2 else numbers.choice([90, 130, 200]) for index in range(13)]
            blocks = [(key, many, numbers.choice(WORDS)) for key, many in zip(keys, times)]
            self.check(blocks, False)
            self.check(blocks, True)

    def test_parts_of_joins_that_go_together(self):
        """Pieces of blocks that alternate, so that joins leap near and far, and patience falls and grows."""
        for lengths in ((1, 1), (5, 9), (8, 8), (7, 40), (1, 30)):
            for words in (("equal", "equal"), ("rising", "rising"), ("rising", "equal")):
                first = [(2 * index, lengths[index % 2], words[0]) for index in range(20)]
                second = [(2 * index + 1, lengths[1 - index % 2], words[1]) for index in range(19)]
                for middle in ([], [(-1, 70, "equal")]):
                    self.check(first + second + middle, False)
                    self.check((first + second + middle)[::-1], True)

    def test_one_item_and_two(self):
        for word in WORDS:
            for reverse in (False, True):
                found = [function([(3, 1, word)], reverse=reverse) for function in SORTS]
                self.assert_same(found, [0, [], []])
                self.assert_same([keys_of_blocks([(3, 1, word)])], [[0]])
                self.check([(3, 2, word)], reverse)
                self.check([(3, 1, word), (2, 1, "equal")], reverse)

    def test_reverse_is_false_by_default(self):
        blocks = [(0, 70, "rising"), (-1, 70, "equal")]
        for function in SORTS:
            self.assert_same(function(blocks), function(blocks, reverse=False))
            self.assertNotEqual(function(blocks), function(blocks, reverse=True))


class Keys(Checking, unittest.TestCase):
    def test_small_keys(self):
        self.assertEqual(keys_of_blocks([(-10 ** 5000, 1, "equal"), (10 ** 5000, 2, "rising")]), [0, 1, 2])
        self.assertEqual(keys_of_blocks([(4, 3, "equal"), (4, 2, "equal")]), [0] * 5)
        self.assertEqual(keys_of_blocks([(4, 3, "rising"), (1, 3, "falling")]), [3, 4, 5, 2, 1, 0])
        self.assert_pure(keys_of_blocks, [(4, 3, "rising"), (1, 3, "falling")])

    def test_as_many_items_as_can_be(self):
        for word in WORDS:
            self.assertEqual(len(keys_of_blocks([(1, 2000, word)])), 2000)
            self.assert_raises(TooLarge(2000), keys_of_blocks, [(1, 2001, word)])
            self.assert_raises(TooLarge(2000), keys_of_blocks, [(1, 1999, word), (2, 2, "equal")])
            self.assert_raises(TooLarge(2000), keys_of_blocks, [(1, LONGEST, word)])
        blocks = [(key, 50, "falling") for key in range(40)]
        self.assertEqual(len(keys_of_blocks(blocks)), 2000)
        self.assert_raises(InvalidBlocks(-1), keys_of_blocks, blocks + [(50, 1, "equal")])
        self.assert_raises(InvalidBlocks(2), keys_of_blocks, [(1, 2000, "equal"), (2, 9, "rising"), (2, 9, "equal")])


class LongBlocks(Checking, unittest.TestCase):
    """Rows that are told without going through their items."""

    def test_one_block(self):
        for word in WORDS:
            for reverse in (False, True):
                asked = LONGEST - 1
                if word == "equal":
                    self.assertEqual(count_blocks([(0, LONGEST, word)], reverse=reverse), asked)
                self.assertEqual(pieces_of_blocks([(0, LONGEST, word)], reverse=reverse), [(LONGEST, LONGEST, asked, 0)])
                self.assertEqual(joins_of_blocks([(0, LONGEST, word)], reverse=reverse), [])

    def test_equal_stretches_that_fall(self):
        numbers = random.Random(143)
        for many in (1, 2, 3, 40):
            for least in (1, LONGEST - 9):
                lengths = [numbers.choice([1, least, LONGEST]) for _ in range(many)]
                blocks = [(-index, length, "equal") for index, length in enumerate(lengths)]
                self.assertEqual(count_blocks(blocks), count_of_falling(lengths))
                self.assertEqual(count_blocks(blocks[::-1], reverse=True), count_of_falling(lengths))

    def test_two_pieces(self):
        for first, second in itertools.product((100, 10 ** 6, LONGEST), repeat=2):
            for keys in ((1, 0), (2, 2), (1, 2)):
                for words in (("rising", "rising"), ("rising", "falling"), ("falling", "rising"), ("falling", "falling")):
                    blocks = [(keys[0], first, words[0]), (keys[1] + (keys == (2, 2)), second, words[1])]
                    pieces = pieces_of_blocks(blocks)
                    if len(pieces) == 2:
                        lengths = [length for _, length, _, _ in pieces]
                        (join,) = joins_of_blocks(blocks)
                        self.assertEqual(join[:3], (0, *lengths))
                        in_pieces = sum(finding + placing for _, _, finding, placing in pieces)
                        self.assertEqual(count_blocks(blocks), in_pieces + join[3])
        # The first piece goes behind the second one as a whole.
        (join,) = joins_of_blocks([(1, LONGEST, "rising"), (0, LONGEST, "rising")])
        self.assertEqual(join[3:], join_count([0, LONGEST, LONGEST])[:2])

    def test_blocks_of_two_pieces_that_alternate(self):
        for times in (1000, 10 ** 9, LONGEST):
            first = [(2 * index, times, "rising") for index in range(20)]
            second = [(2 * index + 1, times, "equal") for index in range(20)]
            (join,) = joins_of_blocks(first + second)
            self.assertEqual(join[:3], (0, 20 * times, 20 * times))
            self.assertEqual(join[3:], join_count([times] * 40)[:2])
            (join,) = joins_of_blocks(second + first)
            self.assertEqual(join[3:], join_count([0] + [times] * 40)[:2])

    def test_40_blocks(self):
        """Rows of many long pieces, whose joins are those of their lengths."""
        numbers = random.Random(144)
        for words in (("rising",), ("rising", "equal"), WORDS):
            for reverse in (False, True):
                for _ in range(10):
                    keys = numbers.sample(range(1000), 40)
                    blocks = [(key, LONGEST - numbers.randrange(3), numbers.choice(words)) for key in keys]
                    self.check_parts(blocks, reverse)

    def check_parts(self, blocks, reverse):
        pieces = self.assert_pure(pieces_of_blocks, blocks, reverse=reverse)
        joins = self.assert_pure(joins_of_blocks, blocks, reverse=reverse)
        lengths = [length for _, length, _, _ in pieces]
        self.assertEqual(sum(lengths), sum(times for _, times, _ in blocks))
        self.assertEqual([join[:3] for join in joins], sum(merges(lengths), []))
        in_pieces = sum(finding + placing for _, _, finding, placing in pieces)
        in_joins = sum(count for _, _, _, count, _ in joins)
        self.assertEqual(self.assert_pure(count_blocks, blocks, reverse=reverse), in_pieces + in_joins)

    def test_long_blocks_are_as_shorter_ones_of_the_same_kind(self):
        """What is asked to find runs grows with the items, by one or two questions for each one that is more."""
        numbers = random.Random(145)
        for _ in range(60):
            keys = numbers.sample(range(100), 8)
            words = [numbers.choice(WORDS) for _ in keys]
            for reverse in (False, True):
                found = []
                for times in (200, 210, 10 ** 15, 10 ** 15 + 10):
                    pieces = pieces_of_blocks([(key, times, word) for key, word in zip(keys, words)], reverse=reverse)
                    found.append([finding for _, _, finding, _ in pieces])
                short, longer, long, last = found
                self.assertEqual([b - a for a, b in zip(short, longer)], [b - a for a, b in zip(long, last)])

    def test_placing_amid_long_blocks(self):
        for key in (-5, 5, 100):
            for word in WORDS:
                blocks = [(0, 3, "rising"), (key, LONGEST, word), (50, LONGEST, "falling"), (10, 1, "equal")]
                short = [(0, 3, "rising"), (key, 900, word), (50, 900, "falling"), (10, 1, "equal")]
                self.assertEqual([placing > 0 for *_, placing in pieces_of_blocks(blocks)], [
                    placing > 0 for *_, placing in pieces_of_blocks(short)
                ])
                self.check_parts(blocks, False)
                self.check_parts(blocks, True)


class Wrong(Checking, unittest.TestCase):
    def test_wrong_arguments(self):
        right = [(1, 2, "equal"), (0, 2, "rising"), (1, 1, "equal")]
        more = {"blocks": wrong_blocks()}
        self.assert_checked(keys_of_blocks, {"blocks": right}, {"blocks": blocks_error}, more)
        for function in SORTS:
            errors = {"blocks": blocks_error, "reverse": reverse_error}
            self.assert_checked(function, {"blocks": right, "reverse": True}, errors, more)
            self.assert_raises(InvalidBlocks(-1), function, [], reverse=None)
            self.assert_raises(InvalidNumber("reverse"), function, right, reverse=1)
            with self.assertRaises(TypeError):
                function(right, True)

    def test_equal_blocks_may_share_a_key(self):
        blocks = [(1, 1, "equal")] * 40
        self.assertEqual(keys_of_blocks(blocks), [0] * 40)
        self.assertEqual(count_blocks(blocks), 39)

    def test_what_is_returned_is_new(self):
        blocks = [(1, 70, "rising"), (0, 70, "equal"), (1000, 5, "falling")]
        for function in (keys_of_blocks, *SORTS):
            self.assert_pure(function, blocks)

    def test_against_the_sort_of_the_package(self):
        blocks = [(1, 700, "rising"), (0, 300, "falling"), (7, 2, "equal"), (3, 600, "equal"), (2, 90, "rising")]
        keys = keys_of_blocks(blocks)
        for reverse in (False, True):
            self.assertEqual(count_blocks(blocks, reverse=reverse), count_of(keys, reverse=reverse))
            joins = [step[1:5] for step in steps_of(keys, reverse=reverse) if step[0] == "join"]
            found = joins_of_blocks(blocks, reverse=reverse)
            self.assertEqual([(*join[:3], join[4]) for join in found], joins)


if __name__ == "__main__":
    unittest.main()
