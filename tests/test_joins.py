import itertools
import random
import unittest

from askedorder.errors import InvalidAnswers, InvalidKeys, InvalidLengths, InvalidNumber
from askedorder.joins import answered, join_count, joined, standing_in
from askedorder.leaps import leap_places
from tests.reference_sort import CountedMerge, merge_by_answers, merge_by_keys
from tests.values import HUGE, Checking, answers_error, int_within, is_int, keys_error, lengths_error, number_error

MOST_PATIENCE = 10 ** 9
LONGEST = 10 ** 20

patience_error = number_error("patience", int_within(1, MOST_PATIENCE))


def keys_of_lengths(lengths):
    """Sorted keys that stand so behind a join."""
    both = ([], [])
    for index, length in enumerate(lengths):
        both[index % 2].extend([index] * length)
    return both


def small_lengths():
    """All lengths of few and short stretches."""
    for many in range(2, 7):
        for lengths in itertools.product((1, 2, 3), repeat=many):
            yield list(lengths)
            if many > 2 and lengths[0] == 1:
                yield [0, *lengths[1:]]


def long_lengths():
    """Lengths of stretches with which joins leap, far and near, up to 2,000 items on a side."""
    numbers = random.Random(11)
    for choices in ([1, 40], [1, 1, 2, 30], [1, 6, 7, 8], [1, 2, 3], [1, 1, 1, 9, 60], [5, 7, 12], [1, 100]):
        for many in (2, 3, 4, 5, 9, 20, 40):
            lengths = [numbers.choice(choices) for _ in range(many)]
            yield lengths
            yield [0, *lengths]
            yield [200, *lengths]
            yield [*lengths, *[1] * numbers.randrange(30), 300]
            yield [*[1] * numbers.randrange(30), *lengths, 1]


def small_keys():
    """Pairs of few keys, rising and not."""
    for many, more in itertools.product(range(1, 5), repeat=2):
        for keys in itertools.product(range(3), repeat=many + more):
            yield list(keys[:many]), list(keys[many:])


def answered_joins(sizes, patience):
    """All rows of answers that do not go on behind the join, each with what is told of it."""
    waiting = [[]]
    while waiting:
        answers = waiting.pop()
        found = answered(sizes, answers, patience)
        yield answers, found
        if found[3] is not None:
            waiting += [answers + [False], answers + [True]]


def patiences_of(first, second, patience):
    """The patience ahead of each question, and that behind the join."""
    found = joined(first, second, patience)
    counts = range(len(found[1]))
    return [standing_in(first, second, patience, count)[1] for count in counts] + [found[2]]


class Joined(Checking, unittest.TestCase):
    def check(self, first, second, patience):
        merge, questions = merge_by_keys(first, second, patience)
        expected = (merge.row, questions, merge.min_gallop, merge.span, merge.aside)
        self.assert_same(joined(first, second, patience), expected)

    def test_all_small_keys(self):
        for first, second in small_keys():
            for patience in (1, 2, 7):
                self.check(first, second, patience)

    def test_all_small_lengths(self):
        for lengths in small_lengths():
            first, second = keys_of_lengths(lengths)
            for patience in (1, 2, 3, 7, MOST_PATIENCE):
                self.check(first, second, patience)

    def test_long_joins(self):
        for lengths in long_lengths():
            first, second = keys_of_lengths(lengths)
            for patience in (1, 2, 5, 7, 30, MOST_PATIENCE):
                self.check(first, second, patience)

    def test_long_joins_of_keys_that_do_not_rise(self):
        numbers = random.Random(12)
        for many, more in [(10, 30), (30, 10), (200, 150), (150, 200), (1, 90), (90, 1), (2, 50), (50, 2)]:
            for patience in (1, 3, 7, MOST_PATIENCE):
                for spread in (2, 30, 1000):
                    first = [numbers.randrange(spread) for _ in range(many)]
                    second = [numbers.randrange(spread) for _ in range(more)]
                    self.check(first, second, patience)

    def test_most_keys(self):
        alternating = list(range(0, 4000, 2)), list(range(1, 4000, 2))
        for first, second in (alternating, alternating[::-1], ([5] * 2000, [5] * 2000), ([6] * 2000, [5] * 2000)):
            for patience in (1, 7, MOST_PATIENCE):
                self.check(first, second, patience)
        self.assert_raises(InvalidKeys(-1), joined, [1] * 2001, [1])
        self.assert_raises(InvalidKeys(-1), joined, [1], [1] * 2001)

    def test_ends_in_the_first_leap(self):
        self.assert_same(joined([1], [1]), ([0, 1], [(1, 0)], 7, (1, 1), []))
        self.assert_same(joined([1, 2, 3], [3, 0], 9), ([0, 1, 2, 3, 4], [(3, 0), (3, 1), (3, 2)], 9, (3, 3), []))

    def test_ends_in_the_last_leap(self):
        self.assert_same(joined([5, 1], [3, 4], 2), ([0, 1, 2, 3], [(2, 0), (3, 1), (2, 1)], 2, (0, 2), []))
        self.assert_same(joined([1, 9, 2], [4], 1), ([0, 1, 2, 3], [(3, 0), (3, 1), (3, 2)], 1, (1, 3), []))

    def test_one_item_each(self):
        self.assert_same(joined([2], [1]), ([1, 0], [(1, 0), (1, 0)], 7, (0, 2), [0]))

    def test_forward_ends_when_second_is_empty(self):
        self.assert_same(joined([2, 2], [1, 1], 7), ([2, 3, 0, 1], [(2, 0), (3, 1), (3, 0)], 7, (0, 4), [0, 1]))

    def test_forward_ends_with_the_last_item_of_first(self):
        expected = ([2, 0, 3, 4, 1], [(2, 0), (4, 1), (3, 0)], 7, (0, 5), [0, 1])
        self.assert_same(joined([2, 5], [1, 3, 4]), expected)

    def test_backward_ends_when_first_is_empty(self):
        expected = ([3, 4, 0, 1, 2], [(3, 0), (4, 2), (4, 1), (4, 0)], 7, (0, 5), [3, 4])
        self.assert_same(joined([3, 4, 5], [1, 2]), expected)

    def test_backward_ends_with_the_last_item_of_second(self):
        expected = ([3, 0, 1, 4, 2], [(3, 0), (4, 2), (4, 1)], 7, (0, 5), [3, 4])
        self.assert_same(joined([2, 3, 5], [1, 4]), expected)

    def test_as_many_items_go_forward(self):
        self.assertEqual(joined([3, 4], [1, 2])[3:], ((0, 4), [0, 1]))
        self.assertEqual(joined([1, 3, 4], [1, 2, 9])[3:], ((1, 5), [1, 2]))
        self.assertEqual(joined([3, 4, 5], [1, 2])[3:], ((0, 5), [3, 4]))

    def test_patience_falls_and_rises_again(self):
        for lengths in ([0, *[12] * 8, *[1] * 12, 2], [*[12] * 7, 13, *[1] * 13, 5]):
            first, second = keys_of_lengths(lengths)
            for one, other in ((first, second), (first + [99] * 50, second), (first, second[:-1] + [98] * 60 + [99])):
                found = patiences_of(one, other, 4)
                steps = [found[at + 1] - found[at] for at in range(len(found) - 1)]
                self.assertIn(-1, steps)
                self.assertIn(1, steps)
                self.assertEqual(set(steps), {-1, 0, 1})
                self.check(one, other, 4)

    def test_patience_is_at_least_one(self):
        first, second = keys_of_lengths([0, *[8] * 30])
        self.assertEqual(patiences_of(first, second, 3)[-1], 1)
        self.assertEqual(min(patiences_of(first, second, 3)), 1)
        self.assertEqual(joined(first, second, 1)[2], 1)

    def test_great_patience_stays(self):
        first, second = keys_of_lengths([0, *[50] * 8])
        self.assertEqual(set(patiences_of(first, second, MOST_PATIENCE)), {MOST_PATIENCE})
        self.assertEqual(set(patiences_of(second, first, 200)), {200})

    def test_patience_without_being_told_is_seven(self):
        first, second = keys_of_lengths([0, 20, 20, 20, 20])
        self.assertEqual(joined(first, second), joined(first, second, 7))
        self.assertNotEqual(joined(first, second), joined(first, second, 8))

    def test_integers_of_any_size(self):
        self.assertEqual(joined([-HUGE, HUGE], [HUGE - 1, HUGE])[0], [0, 2, 1, 3])

    def test_arguments(self):
        args = [[1, 4, 6, 8], [2, 5, 7], 3]
        self.assert_pure(joined, *args)
        more = [[], (), [1] * 2001, [1, None], (1, True, [])]
        self.assert_rejected(joined, args, 0, lambda keys: keys_error(keys, 1), more)
        self.assert_rejected(joined, args, 1, lambda keys: keys_error(keys, 1), more)
        self.assert_rejected(joined, args, 2, patience_error, [MOST_PATIENCE + 1, 0, [7]])
        self.assert_raises(InvalidKeys(1), joined, [1, None], [None], 0)
        self.assert_raises(InvalidKeys(0), joined, [1], [None], 0)


class StandingIn(Checking, unittest.TestCase):
    def check(self, first, second, patience):
        many = len(joined(first, second, patience)[1])
        for count in range(many):
            merge, questions = merge_by_keys(first, second, patience, count)
            self.assert_same(standing_in(first, second, patience, count), (merge.row, merge.min_gallop))
        for count in (many, many + 1, -1):
            self.assert_raises(InvalidNumber("count"), standing_in, first, second, patience, count)

    def test_all_stands_as_before_ahead_of_the_first_one_that_goes(self):
        first, second = [1, 4, 6, 8], [2, 5, 7]
        for count in range(3):
            self.assert_same(standing_in(first, second, 7, count), ([0, 1, 2, 3, 4, 5, 6], 7))
        self.assert_same(standing_in(first, second, 7, 3), ([0, 4, 1, 2, 3, 5, 6], 7))

    def test_what_is_left_of_first_stands_ahead_of_second(self):
        first, second = [9, 9, 9], [1, 1, 1, 1, 1, 1]
        orders = [standing_in(first, second, 7, count)[0] for count in range(2, 5)]
        rows = [[3, 0, 1, 2, 4, 5, 6, 7, 8], [3, 4, 0, 1, 2, 5, 6, 7, 8], [3, 4, 5, 0, 1, 2, 6, 7, 8]]
        self.assertEqual(orders, rows)
        many = len(joined(first, second)[1])
        self.assertEqual(standing_in(first, second, 7, many - 1)[0], [3, 4, 5, 6, 7, 0, 1, 2, 8])

    def test_backward_the_highest_places_are_filled(self):
        first, second = [9, 9, 9, 9, 9, 9], [1, 1, 1]
        many = len(joined(first, second)[1])
        self.assertEqual(standing_in(first, second, 7, many - 1)[0], [0, 6, 7, 8, 1, 2, 3, 4, 5])

    def test_small_keys(self):
        for number, (first, second) in enumerate(small_keys()):
            if number % 5 == 0:
                self.check(first, second, 1 + number % 3)

    def test_small_lengths(self):
        for number, lengths in enumerate(small_lengths()):
            if number % 3 == 0:
                self.check(*keys_of_lengths(lengths), 1 + number % 4)

    def test_long_joins(self):
        for number, lengths in enumerate(long_lengths()):
            if sum(lengths) < 200 or number % 40 == 0:
                self.check(*keys_of_lengths(lengths), (1, 3, 7)[number % 3])

    def test_arguments(self):
        args = [[1, 4, 6, 8], [2, 5, 7], 7, 5]
        self.assert_pure(standing_in, *args)
        many = len(joined(*args[:3])[1])
        more = [[], (), [1] * 2001, [1, None], (1, True, [])]
        self.assert_rejected(standing_in, args, 0, lambda keys: keys_error(keys, 1), more)
        self.assert_rejected(standing_in, args, 1, lambda keys: keys_error(keys, 1), more)
        self.assert_rejected(standing_in, args, 2, patience_error, [MOST_PATIENCE + 1, [7]])
        self.assert_rejected(standing_in, args, 3, number_error("count", int_within(0, many - 1)), [many, [5]])
        with self.assertRaises(TypeError):
            standing_in([1], [2])


class Answered(Checking, unittest.TestCase):
    def test_all_answers(self):
        for sizes in itertools.product((1, 2, 3), repeat=2):
            for patience in (1, 2, 7):
                for answers, found in answered_joins(sizes, patience):
                    merge, questions, waits = merge_by_answers(sizes, answers, patience)
                    self.assert_same(found, (merge.row, questions, merge.min_gallop, waits))
                    if waits is None:
                        for more in ([True], [False], [True, False]):
                            error = InvalidAnswers(len(answers))
                            self.assert_raises(error, answered, sizes, answers + more, patience)

    def test_too_few_just_enough_and_too_many(self):
        self.assert_same(answered((1, 1), []), ([0, 1], [], 7, (1, 0)))
        self.assert_same(answered((1, 1), [False]), ([0, 1], [(1, 0)], 7, None))
        self.assert_raises(InvalidAnswers(1), answered, (1, 1), [False, False])
        self.assert_same(answered((1, 1), [True]), ([0, 1], [(1, 0)], 7, (1, 0)))
        self.assert_same(answered((1, 1), [True, True]), ([1, 0], [(1, 0), (1, 0)], 7, None))
        self.assert_same(answered((1, 1), [True, False]), ([0, 1], [(1, 0), (1, 0)], 7, None))
        self.assert_raises(InvalidAnswers(2), answered, (1, 1), [True, True, True, False])

    def test_long_answers(self):
        numbers = random.Random(13)
        for sizes in [(20, 30), (30, 20), (1000, 1000), (300, 800), (900, 200), (1, 1000), (1000, 1)]:
            for patience in (1, 7, MOST_PATIENCE):
                for share in (0.05, 0.3, 0.5, 0.8, 0.97):
                    answers = [numbers.random() < share for _ in range(8000)]
                    merge, questions, waits = merge_by_answers(sizes, answers, patience)
                    self.assertIsNone(waits)
                    many = len(questions)
                    expected = (merge.row, questions, merge.min_gallop, None)
                    self.assertEqual(answered(sizes, answers[:many], patience), expected)
                    self.assert_raises(InvalidAnswers(many), answered, sizes, answers, patience)
                    half, asked, waits = merge_by_answers(sizes, answers[:many // 2], patience)
                    expected = (half.row, asked, half.min_gallop, waits)
                    self.assertEqual(answered(sizes, answers[:many // 2], patience), expected)

    def test_honest_answers_join(self):
        for number, lengths in enumerate(long_lengths()):
            first, second = keys_of_lengths(lengths)
            if number % 7 == 0 and len(first) <= 1000 and len(second) <= 1000:
                keys = first + second
                order, questions, patience, _, _ = joined(first, second, 5)
                answers = [keys[one] < keys[other] for one, other in questions]
                self.assertEqual(answered((len(first), len(second)), answers, 5), (order, questions, patience, None))

    def test_arguments(self):
        args = [[4, 3], [True, False, True], 2]
        self.assert_pure(answered, *args)
        more = [[0, 1], [1, 0], [1001, 1], (1, 1001), [1, 2, 3], [5], [1, None], [None, 0], [True, 1], "ab", {1: 1, 2: 2}]
        self.assert_rejected(answered, args, 0, lambda sizes: lengths_error(sizes, 2, 2, 1000), more)
        self.assert_rejected(answered, args, 1, answers_error, [[True, 1], (False, None, 0)])
        self.assert_rejected(answered, args, 2, patience_error, [MOST_PATIENCE + 1, [7]])
        # Answers that no question takes are told behind all other errors.
        self.assert_raises(InvalidNumber("patience"), answered, (1, 1), [True] * 9, 0)
        self.assert_raises(InvalidAnswers(5), answered, (1, 1), [True] * 5 + [1], 7)
        self.assert_raises(InvalidLengths(0), answered, (0, 0), None, None)
        self.assertEqual(answered((1000, 1000), [])[3], (1000, 0))


class JoinCount(Checking, unittest.TestCase):
    def check(self, lengths, patience):
        order, questions, behind, _, aside = joined(*keys_of_lengths(lengths), patience)
        self.assert_same(join_count(lengths, patience), (len(questions), behind, len(aside)))

    def test_all_small_lengths(self):
        for lengths in small_lengths():
            for patience in (1, 2, 3, 7):
                self.check(lengths, patience)

    def test_long_joins(self):
        for lengths in long_lengths():
            for patience in (1, 2, 5, 7, 30, MOST_PATIENCE):
                self.check(lengths, patience)

    def test_two_lengths_stand_in_their_places(self):
        for many in (1, 2, 63, 64, 10 ** 19, LONGEST):
            expected = (len(leap_places(many, 0, many)), 5, 0)
            self.assert_same(join_count([many, 3], 5), expected)
            self.assert_same(join_count((many, LONGEST), 5), expected)

    def test_great_lengths(self):
        numbers = random.Random(14)
        for many in (3, 4, 5, 10, 50, 199, 200):
            for patience in (1, 2, 7, 8, 60):
                for longest in (3, 20, 10 ** 6, LONGEST):
                    lengths = [numbers.choice([1, 2, 7, numbers.randrange(1, longest)]) for _ in range(many)]
                    lengths[0] *= numbers.randrange(2)
                    merge = CountedMerge(lengths, patience)
                    expected = (merge.count, merge.min_gallop, merge.many_aside)
                    self.assert_same(join_count(lengths, patience), expected)

    def test_great_patience(self):
        # Forward: one question for each of the leaps of step 1, F1 without
        # one, then as many as patience, then one for the leap in first that
        # goes nowhere, and behind one item more the leap over what is left.
        for patience in (10 ** 6, MOST_PATIENCE):
            left = LONGEST - patience - 2
            count = 2 + patience + 1 + len(leap_places(left, 0, left))
            self.assert_same(join_count([0, LONGEST, LONGEST], patience), (count, patience, LONGEST))
        # Backward: B2 goes the same way, and the leap in first goes over all that is left.
        left = LONGEST - MOST_PATIENCE - 1
        count = 2 + MOST_PATIENCE + len(leap_places(left, left - 1, 0))
        found = join_count([0, LONGEST - 1, LONGEST], MOST_PATIENCE)
        self.assert_same(found, (count, MOST_PATIENCE, LONGEST - 1))
        # Too few items to lose patience.
        found = join_count([0, MOST_PATIENCE, MOST_PATIENCE], MOST_PATIENCE)
        self.assert_same(found, (2 + MOST_PATIENCE - 1, MOST_PATIENCE, MOST_PATIENCE))

    def test_patience_that_stands_between(self):
        for patience in (4000, 5000, 6001):
            for lengths in ([0, 5000, 20000, 1, 1, 5000, 4000, 9000, 1], [3, 9000, 1, 1, 6000, 4000, 4000, 1]):
                merge = CountedMerge(lengths, patience)
                expected = (merge.count, merge.min_gallop, merge.many_aside)
                self.assert_same(join_count(lengths, patience), expected)

    def test_patience_without_being_told_is_seven(self):
        self.assertEqual(join_count([0, 20, 20]), join_count([0, 20, 20], 7))
        self.assertNotEqual(join_count([0, 20, 20]), join_count([0, 20, 20], 6))

    def test_arguments(self):
        args = [[3, 9, 8, 2, 5], 2]
        self.assert_pure(join_count, *args)
        more = [
            [0, 5], [5, 0], [0, 0, 1], [0, 1, 0], [1, -1, 0], [-1, 1, 1], [5], [], [1] * 201, [LONGEST + 1, 1],
            [1, 1, LONGEST + 1], [0, True, 1], [False, 1, 1], [1, [], []], [0, None], "ab", (1, 1, 1, None),
        ]
        self.assert_rejected(join_count, args, 0, self.error_of, more)
        self.assert_rejected(join_count, args, 1, patience_error, [MOST_PATIENCE + 1, [7]])
        self.assert_raises(InvalidLengths(0), join_count, [0, 5], 0)
        join_count([1] * 200)
        join_count([0, 1, 1])

    def error_of(self, lengths):
        if type(lengths) in (list, tuple) and len(lengths) > 2 and is_int(lengths[0]) and lengths[0] == 0:
            return lengths_error([1, *lengths[1:]], 2, 200, LONGEST)
        return lengths_error(lengths, 2, 200, LONGEST)


class Facts(unittest.TestCase):
    def test_a_join_keeps_the_order_of_both_and_asks_of_one_of_each(self):
        twice = 0
        for sizes in itertools.product((1, 2, 3), repeat=2):
            for answers, (order, questions, _, waits) in answered_joins(sizes, 1):
                self.check_order(sizes, order)
                for one, other in [*questions, *([] if waits is None else [waits])]:
                    self.assertTrue(other < sizes[0] <= one)
                twice += len(set(questions)) < len(questions)
        self.assertGreater(twice, 0)

    def check_order(self, sizes, order):
        self.assertEqual([item for item in order if item < sizes[0]], list(range(sizes[0])))
        self.assertEqual([item for item in order if item >= sizes[0]], list(range(sizes[0], sum(sizes))))

    def test_sorted_stretches_become_one(self):
        for lengths in itertools.chain(small_lengths(), long_lengths()):
            first, second = keys_of_lengths(lengths)
            # Halved keys: some of second are equal to some of first.
            for one, other in ((first, second), ([key // 2 for key in first], [key // 2 for key in second])):
                keys = one + other
                self.assertEqual(joined(one, other, 3)[0], sorted(range(len(keys)), key=keys.__getitem__))

    def test_items_in_their_places_ask_few(self):
        for many in [*range(1, 70), 500, 2000]:
            for more in (1, 5, 2000):
                order, questions, patience, span, aside = joined(list(range(many)), [many] * more, 4)
                self.assertLessEqual(len(questions), 2 * many.bit_length())
                self.assertEqual((order, patience), (list(range(many + more)), 4))
                self.assertEqual((span, aside), ((many, many), []))
        for many in (10 ** 10, 2 ** 66, 2 ** 66 - 1, LONGEST):
            self.assertLessEqual(join_count([many, 1])[0], 2 * many.bit_length())


if __name__ == "__main__":
    unittest.main()
