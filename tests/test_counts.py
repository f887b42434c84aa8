import collections
import functools
import itertools
import math
import random
import unittest

from askedorder.counts import count_of_falling, fewest, fewest_keys, most, most_keys, spread, sum_of
from askedorder.errors import InvalidLengths
from askedorder.sorting import count_of, questions_of
from tests.sort_rows import shapes
from tests.values import Checking, int_within, is_int, lengths_error, number_error

LONGEST = 10 ** 18


def falling_keys(lengths):
    return [-index for index, length in enumerate(lengths) for _ in range(length)]


@functools.cache
def halving(size, place):
    """How many questions it takes to find a place among so many items by halves."""
    low, high, count = 0, size, 0
    while low < high:
        middle = (low + high) // 2
        count += 1
        low, high = (low, middle) if place <= middle else (middle + 1, high)
    return count


def sum_by_ranks(many):
    """sum_of, by going through all that finding the run can know of the next item's rank.

    A state is what the run does and how many items it has; the ranks of
    items are independent of one another, whatever they are in the run.
    """
    total = 0
    for ranks, asked, length in runs_by_ranks(many):
        ways = math.prod(range(length + 2, many + 1))
        if length == many:
            total += asked
            continue
        # The item behind the run has one of these ranks, all others have any.
        total += ways * sum(asked + halving(length, rank) for rank in ranks)
        for index in range(length + 1, many):
            mean = sum(halving(index, rank) for rank in range(index + 1))
            total += len(ranks) * ways // (index + 1) * mean
    return total


def runs_by_ranks(many):
    """Tuples (ranks of the item that breaks the run, questions, length), one for each way in which runs go on."""
    if many < 2:
        yield [], 0, many
        return
    yield [], many - 1, many
    for length in range(2, many):
        yield list(range(length)), length + 1, length
    for fallen in range(2, many + 1):
        if fallen == many:
            yield [], many - 1, many
            continue
        asked = fallen - 1 + 2
        yield list(range(1, fallen)), asked + 1, fallen
        for length in range(fallen + 1, many):
            yield list(range(length)), asked + length - fallen + 1, length
        yield [], asked + many - fallen, many


class FewestAndMost(Checking, unittest.TestCase):
    def test_all_shapes_of_few_keys(self):
        for many in range(7):
            counts = [count_of(keys) for keys in shapes(many)]
            self.assertEqual((fewest(many), most(many)), (min(counts), max(counts)))

    def test_the_keys_have_so_many_questions(self):
        for many in range(64):
            for number, keys in ((fewest, fewest_keys), (most, most_keys)):
                found = self.assert_pure(keys, many)
                self.assertEqual(len(found), many)
                self.assertTrue(all(is_int(key) for key in found))
                self.assert_same(self.assert_pure(number, many), count_of(found))

    def test_known_numbers(self):
        self.assertEqual([fewest(many) for many in (0, 1, 2, 3, 63)], [0, 0, 1, 2, 62])
        self.assertEqual([most(many) for many in (0, 1, 2, 3, 4, 5, 6)], [0, 0, 1, 6, 8, 11, 14])
        # Four questions for the run of two items, then as many as halves can take.
        self.assertEqual(most(63), 4 + sum(index.bit_length() for index in range(2, 63)))

    def test_no_row_of_keys_has_more(self):
        numbers = random.Random(111)
        for many in range(2, 64):
            for kinds in (2, 5, 100):
                keys = [numbers.randrange(kinds) for _ in range(many)]
                self.assertLessEqual(count_of(keys), most(many))
                self.assertLessEqual(count_of(sorted(keys, reverse=True)), most(many))
                self.assertGreaterEqual(count_of(keys), fewest(many))

    def test_wrong_arguments(self):
        error = number_error("many", int_within(0, 63))
        for function in (fewest, most, fewest_keys, most_keys, sum_of):
            self.assert_checked(function, {"many": 3}, {"many": error}, {"many": [64]})


class Falling(Checking, unittest.TestCase):
    def test_few_items(self):
        for many in range(1, 6):
            for lengths in itertools.product((1, 2, 3, 4), repeat=many):
                found = self.assert_pure(count_of_falling, list(lengths))
                self.assert_same(found, count_of(falling_keys(lengths)))

    def test_more_items(self):
        numbers = random.Random(112)
        for many, longest in ((1, 2000), (2, 1000), (20, 100), (300, 6), (300, 1), (200, 10)):
            for _ in range(4):
                lengths = [numbers.randrange(1, longest + 1) for _ in range(many)]
                self.assertEqual(count_of_falling(lengths), count_of(falling_keys(lengths)))

    def test_long_stretches(self):
        self.assertEqual(count_of_falling([LONGEST]), LONGEST - 1)
        self.assertEqual(count_of_falling([LONGEST, 1]), LONGEST + 1)
        self.assertEqual(count_of_falling([1, LONGEST]), 2 * LONGEST - 1)
        self.assertEqual(count_of_falling([LONGEST] * 300), LONGEST + 299 * (2 * LONGEST - 1))
        self.assertEqual(count_of_falling([1] + [LONGEST] * 299), 299 * (2 * LONGEST - 1))

    def test_wrong_arguments(self):
        more = [[], (), [1] * 301, [0], [LONGEST + 1], [1, 2, 0], [1, True], (1, 2, -1, None), [None] * 301, [[1]]]
        errors = {"lengths": lambda value: lengths_error(value, 1, 300, LONGEST)}
        self.assert_checked(count_of_falling, {"lengths": [1]}, errors, {"lengths": more})
        self.assert_raises(InvalidLengths(2), count_of_falling, [1, 2, LONGEST + 1])


class Sums(Checking, unittest.TestCase):
    def test_all_orders_of_few_items(self):
        for many in range(8):
            expected = sum(count_of(order) for order in itertools.permutations(range(many)))
            self.assert_same(self.assert_pure(sum_of, many), expected)

    def test_up_to_63_items(self):
        for many in (*range(16), 31, 32, 33, 62, 63):
            self.assertEqual(sum_of(many), sum_by_ranks(many))

    def test_the_mean_of_63_items(self):
        numbers = random.Random(113)
        counts = [count_of(numbers.sample(range(63), 63)) for _ in range(1500)]
        mean = sum_of(63) / math.factorial(63)
        self.assertLess(abs(sum(counts) / len(counts) - mean), 1)


class Spread(Checking, unittest.TestCase):
    def test_all_shapes(self):
        for many in range(7):
            expected = sorted(collections.Counter(count_of(keys) for keys in shapes(many)).items())
            self.assert_same(self.assert_pure(spread, many), expected)

    def test_none_and_one(self):
        self.assertEqual([spread(0), spread(1), spread(2)], [[(0, 1)], [(0, 1)], [(1, 3)]])

    def test_wrong_arguments(self):
        error = number_error("many", int_within(0, 6))
        self.assert_checked(spread, {"many": 3}, {"many": error}, {"many": [7]})


class Facts(unittest.TestCase):
    def test_keys_that_are_put_at_index_0_or_1(self):
        numbers = random.Random(114)
        for many in range(3, 64):
            for _ in range(5):
                # The row as it stands, with the first two falling and the third between them.
                row = [1, 2, 0]
                for item in range(3, many):
                    row.insert(numbers.randrange(2), item)
                keys = [row.index(item) for item in range(many)]
                self.assertEqual(count_of(keys), most(many), keys)

    def test_six_questions_of_three_keys(self):
        worst = [keys for keys in shapes(3) if count_of(keys) == 6]
        self.assertEqual(len(worst), 1)
        pairs = collections.Counter(tuple(sorted(question)) for question in questions_of(worst[0]))
        self.assertEqual(sorted(pairs.values()), [1, 2, 3])
        self.assertGreater(len(set(questions_of(worst[0]))), 3)

    def test_the_numbers_of_shapes(self):
        found = [sum(number for _, number in spread(many)) for many in range(7)]
        self.assertEqual(found, [1, 1, 3, 13, 75, 541, 4683])


if __name__ == "__main__":
    unittest.main()
