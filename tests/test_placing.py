import bisect
import itertools
import random
import unittest

from askedorder.errors import InvalidAnswers, InvalidKeys, InvalidNumber, Mismatch
from askedorder.placing import (
    easy_keys, fewest_placing, hard_keys, least_length, most_placing, placed, placing_standing, told_placing,
)
from askedorder.rows import stable_order
from tests.reference import Asker, Stopped
from tests.reference_sort import binarysort, compute_minrun
from tests.values import HUGE, Checking, answers_error, int_within, keys_error, number_error

MOST_ROW = 10 ** 30


def place_by(many, ready, answer, count=None):
    """(row, questions, the one that waits or None) by the reference."""
    asker = Asker(answer, count)
    row = list(range(many))
    try:
        binarysort(row, 0, many, ready, asker.less)
    except Stopped:
        pass
    return row, asker.questions, asker.refused


def place_keys(keys, ready, count=None):
    return place_by(len(keys), ready, lambda at, one, other: keys[one] < keys[other], count)


def all_cases(most):
    """All small rows of keys, with all numbers of ready items."""
    for many in range(most + 1):
        for keys in itertools.product(range(many), repeat=many):
            for ready in range(many + 1):
                yield list(keys), ready


def long_cases():
    numbers = random.Random(3)
    for many in (5, 17, 31, 32, 33, 47, 63, 64):
        for spread in (1, 2, 10, 1000):
            keys = [numbers.randrange(spread) for _ in range(many)]
            for ready in (0, 1, 2, many // 2, many - 1, many):
                yield keys, ready
                yield sorted(keys[:ready]) + keys[ready:], ready


def told_placings(many, ready):
    """All rows of answers that do not go on behind the end, each with what is told of it."""
    waiting = [[]]
    while waiting:
        answers = waiting.pop()
        found = told_placing(many, ready, answers)
        yield answers, found
        if not found[0]:
            waiting += [answers + [False], answers + [True]]


class LeastLength(Checking, unittest.TestCase):
    def test_less_than_64_is_the_number_itself(self):
        self.assertEqual([least_length(many) for many in range(64)], list(range(64)))

    def test_around_powers_of_two(self):
        for power in range(7, 99):
            self.assertEqual(least_length(2 ** power), 32)
            self.assertEqual(least_length(2 ** power + 1), 33)
            self.assertEqual(least_length(2 ** power - 1), 64)
            self.assertEqual(least_length(2 ** power + 2 ** (power - 5)), 33)
            self.assertEqual(least_length(2 ** power + 2 ** (power - 5) + 1), 34)

    def test_one_more_however_little_is_rounded_off(self):
        self.assertEqual(least_length(64 * 2 ** 90), 32)
        self.assertEqual(least_length(63 * 2 ** 90), 63)
        self.assertEqual(least_length(63 * 2 ** 90 + 1), 64)
        self.assertEqual(least_length(40 * 2 ** 20 + 2 ** 10), 41)

    def test_against_the_reference(self):
        for many in [*range(5000), MOST_ROW, MOST_ROW - 1, *[7 ** power for power in range(35)]]:
            self.assert_same(least_length(many), compute_minrun(many))

    def test_arguments(self):
        self.assert_pure(least_length, MOST_ROW)
        error_of = number_error("many", int_within(0, MOST_ROW))
        self.assert_rejected(least_length, [5], 0, error_of, [MOST_ROW + 1, -1, [5]])


class Placed(Checking, unittest.TestCase):
    def test_none_and_one(self):
        self.assert_same(placed([], 0), ([], []))
        self.assert_same(placed([5], 0), ([0], []))
        self.assert_same(placed([5], 1), ([0], []))

    def test_equal_items_stay_as_they_came(self):
        self.assertEqual(placed([2, 2, 2], 1), ([0, 1, 2], [(1, 0), (2, 1)]))

    def test_each_item_is_asked_by_halves(self):
        self.assertEqual(placed([0, 10, 20, 30, 40, 25], 5), ([0, 1, 2, 5, 3, 4], [(5, 2), (5, 4), (5, 3)]))
        self.assertEqual(placed([0, 10, 20, 30, 20], 4), ([0, 1, 2, 4, 3], [(4, 2), (4, 3)]))

    def test_ready_zero_is_as_ready_one(self):
        for keys, _ in all_cases(4):
            if keys:
                self.assertEqual(placed(keys, 0), placed(keys, 1))

    def test_all_ready_asks_nothing(self):
        self.assertEqual(placed([3, 1, 2], 3), ([0, 1, 2], []))
        self.assertEqual(placed(list(range(64)), 64), (list(range(64)), []))

    def test_ready_items_that_do_not_rise(self):
        self.assertEqual(placed([3, 1, 2], 2), ([0, 1, 2], [(2, 1)]))
        self.assertEqual(placed([9, 5, 1, 4], 3), ([3, 0, 1, 2], [(3, 1), (3, 0)]))

    def test_against_the_reference(self):
        for keys, ready in itertools.chain(all_cases(4), long_cases()):
            row, questions, _ = place_keys(keys, ready)
            self.assert_same(placed(keys, ready), (row, questions))

    def test_integers_of_any_size(self):
        self.assertEqual(placed([HUGE, -HUGE, HUGE - 1], 0), ([1, 2, 0], [(1, 0), (2, 0), (2, 1)]))

    def test_most_keys(self):
        self.assertEqual(len(placed([0] * 64, 0)[0]), 64)
        self.assert_raises(InvalidKeys(-1), placed, [0] * 65, 0)
        self.assert_raises(InvalidKeys(-1), placed, [0] * 65, None)
        self.assert_raises(InvalidKeys(-1), placed, [None] * 65, 0)

    def test_arguments(self):
        self.assert_pure(placed, [3, 1, 2, 2], 0)
        more = [[1, 2, None], [1, True, []], ("1",), [0] * 65]
        self.assert_rejected(placed, [[3, 1, 2], 1], 0, lambda keys: keys_error(keys, 0, 64), more)
        self.assert_rejected(placed, [[3, 1, 2], 1], 1, number_error("ready", int_within(0, 3)), [4, -1])
        self.assert_raises(InvalidNumber("ready"), placed, [], 1)


class PlacingStanding(Checking, unittest.TestCase):
    def test_nothing_moves_before_an_item_has_its_index(self):
        rows = [placing_standing([4, 3, 2, 1], 0, count) for count in range(6)]
        self.assertEqual(rows, [
            [0, 1, 2, 3], [1, 0, 2, 3], [1, 0, 2, 3], [2, 1, 0, 3], [2, 1, 0, 3], [3, 2, 1, 0],
        ])

    def test_every_number_of_questions(self):
        for keys, ready in itertools.chain(all_cases(4), list(long_cases())[::7]):
            order, questions = placed(keys, ready)
            for count in range(len(questions) + 1):
                self.assertEqual(placing_standing(keys, ready, count), place_keys(keys, ready, count)[0])
            self.assertEqual(placing_standing(keys, ready, len(questions)), order)
            self.assert_raises(InvalidNumber("count"), placing_standing, keys, ready, len(questions) + 1)

    def test_no_questions(self):
        self.assertEqual(placing_standing([], 0, 0), [])
        self.assertEqual(placing_standing([2, 1], 2, 0), [0, 1])
        self.assert_raises(InvalidNumber("count"), placing_standing, [2, 1], 2, 1)

    def test_arguments(self):
        args = [[3, 1, 2], 1, 2]
        self.assert_pure(placing_standing, *args)
        self.assert_rejected(placing_standing, args, 0, lambda keys: keys_error(keys, 0, 64), [[1, None], [0] * 65])
        self.assert_rejected(placing_standing, args, 1, number_error("ready", int_within(0, 3)), [4])
        self.assert_rejected(placing_standing, args, 2, number_error("count", int_within(0, 3)), [4, [1]])


class ToldPlacing(Checking, unittest.TestCase):
    def test_none_and_one(self):
        self.assert_same(told_placing(0, 0, []), (True, [], []))
        self.assert_same(told_placing(1, 0, ()), (True, [0], []))
        self.assert_same(told_placing(1, 1, []), (True, [0], []))
        for many in (0, 1):
            self.assert_raises(Mismatch("answers"), told_placing, many, 0, [True])

    def test_too_few_just_enough_and_one_too_many(self):
        self.assert_same(told_placing(3, 1, [True]), (False, [1, 0, 2], [(1, 0), (2, 0)]))
        self.assert_same(told_placing(3, 1, [True, True]), (False, [1, 0, 2], [(1, 0), (2, 0), (2, 1)]))
        self.assert_same(told_placing(3, 1, [True, True, True]), (True, [2, 1, 0], [(1, 0), (2, 0), (2, 1)]))
        self.assert_same(told_placing(3, 1, [True, False]), (True, [1, 0, 2], [(1, 0), (2, 0)]))
        self.assert_raises(Mismatch("answers"), told_placing, 3, 1, [True, False, False])
        self.assert_raises(Mismatch("answers"), told_placing, 3, 1, [True] * 4)

    def test_all_answers(self):
        for many in range(6):
            for ready in range(many + 1):
                for answers, (finished, row, questions) in told_placings(many, ready):
                    expected, asked, waits = place_by(many, ready, lambda at, one, other: answers[at], len(answers))
                    self.assert_same(row, expected)
                    self.assert_same(finished, waits is None)
                    self.assert_same(questions, asked if finished else [*asked, waits])
                    if finished:
                        for more in ([True], [False], [True, False]):
                            self.assert_raises(Mismatch("answers"), told_placing, many, ready, answers + more)

    def test_long_answers(self):
        numbers = random.Random(4)
        for many in (16, 40, 63, 64):
            for ready in (0, 1, many // 3, many - 1, many):
                answers = [numbers.random() < 0.5 for _ in range(6 * many)]
                expected, asked, _ = place_by(many, ready, lambda at, one, other: answers[at])
                self.assertEqual(told_placing(many, ready, answers[:len(asked)]), (True, expected, asked))
                if asked:
                    found = told_placing(many, ready, answers[:len(asked) - 1])
                    self.assertEqual((found[0], found[2]), (False, asked))

    def test_honest_answers_place(self):
        for keys, ready in all_cases(4):
            order, questions = placed(keys, ready)
            answers = [keys[one] < keys[other] for one, other in questions]
            self.assertEqual(told_placing(len(keys), ready, answers), (True, order, questions))

    def test_arguments(self):
        args = [5, 2, [True, False]]
        self.assert_pure(told_placing, *args)
        self.assert_rejected(told_placing, args, 0, number_error("many", int_within(0, 64)), [65, [5]])
        self.assert_rejected(told_placing, args, 1, number_error("ready", int_within(0, 5)), [6])
        self.assert_rejected(told_placing, args, 2, answers_error, [[True, 1], (False, None, 0)])
        # Wrong entries are told ahead of answers that nothing asks for.
        self.assert_raises(InvalidAnswers(2), told_placing, 0, 0, [True, True, 0])


class FewestAndMost(Checking, unittest.TestCase):
    def test_against_the_answers(self):
        for many in range(7):
            for ready in range(many + 1):
                counts = [len(found[2]) for _, found in told_placings(many, ready) if found[0]]
                self.assert_same(fewest_placing(many, ready), min(counts))
                self.assert_same(most_placing(many, ready), max(counts))

    def test_keys_ask_as_few_and_as_many(self):
        for many in range(65):
            for ready in range(many + 1):
                easy, hard = easy_keys(many, ready), hard_keys(many, ready)
                for keys, number in ((easy, fewest_placing(many, ready)), (hard, most_placing(many, ready))):
                    self.assertEqual((type(keys), len(keys), {type(key) for key in keys} - {int}), (list, many, set()))
                    self.assertTrue(all(keys[at] < keys[at + 1] for at in range(ready - 1)))
                    self.assertEqual(len(placed(keys, ready)[1]), number)

    def test_the_bounds_item_by_item(self):
        for many in range(65):
            for ready in range(many + 1):
                indexes = range(max(ready, 1), many)
                self.assertEqual(fewest_placing(many, ready), sum(halvings(index + 1, 1) for index in indexes))
                self.assertEqual(most_placing(many, ready), sum(halvings(index, 0) for index in indexes))

    def test_arguments(self):
        for call in (fewest_placing, most_placing, easy_keys, hard_keys):
            self.assert_pure(call, 9, 4)
            self.assert_rejected(call, [5, 2], 0, number_error("many", int_within(0, 64)), [65])
            self.assert_rejected(call, [5, 2], 1, number_error("ready", int_within(0, 5)), [6])
            self.assert_raises(InvalidNumber("ready"), call, 0, 1)
            call(64, 64)
            call(0, 0)


def halvings(number, end):
    """How often a number can be halved, rounded down, until it is `end`."""
    count = 0
    while number > end:
        number //= 2
        count += 1
    return count


class Facts(unittest.TestCase):
    def test_how_many_questions_an_item_is_asked(self):
        for many in range(1, 9):
            for ready in range(many):
                for answers in itertools.product((False, True), repeat=6):
                    self.check_items(many, ready, list(answers) * 6)
        numbers = random.Random(6)
        for _ in range(50):
            self.check_items(64, numbers.randrange(64), [numbers.random() < 0.5 for _ in range(400)])

    def check_items(self, many, ready, answers):
        _, questions, _ = place_by(many, ready, lambda at, one, other: answers[at])
        for item in range(max(ready, 1), many):
            asked = len([one for one, _ in questions if one == item])
            fewest, most = halvings(item + 1, 1), halvings(item, 0)
            self.assertTrue(fewest <= asked <= most)
            until = max(at for at, question in enumerate(questions) if question[0] == item)
            finished, row, _ = told_placing(item + 1, ready, answers[:until + 1])
            self.assertTrue(finished)
            if row.index(item) < 2:
                self.assertEqual(asked, most)
            if row.index(item) == item:
                self.assertEqual(asked, fewest)

    def test_ready_items_that_do_not_fall_end_in_the_stable_order(self):
        for keys, ready in itertools.chain(all_cases(5), long_cases()):
            if all(keys[at] <= keys[at + 1] for at in range(ready - 1)):
                self.assertEqual(placed(keys, ready)[0], stable_order(keys))

    def test_an_item_goes_behind_all_that_are_not_greater(self):
        for keys, ready in all_cases(4):
            if ready and ready < len(keys) and keys[:ready] == sorted(keys[:ready]):
                order, _ = placed(keys[:ready + 1], ready)
                self.assertEqual(order.index(ready), bisect.bisect_right(keys[:ready], keys[ready]))

    def test_items_keep_their_places_and_no_question_is_asked_twice(self):
        for many in range(6):
            for ready in range(many + 1):
                for answers, (finished, row, questions) in told_placings(many, ready):
                    self.assertEqual(len({frozenset(question) for question in questions}), len(questions))
                    for count in range(len(answers)):
                        ahead = told_placing(many, ready, answers[:count])
                        item = ahead[2][-1][0]
                        behind = told_placing(many, ready, answers[:count + 1])[1]
                        self.assertEqual([at for at in ahead[1] if at != item], [at for at in behind if at != item])

    def test_least_lengths_are_from_32_to_64(self):
        numbers = random.Random(8)
        for many in [*range(64, 9000), *[numbers.randrange(64, MOST_ROW) for _ in range(500)]]:
            self.assertTrue(32 <= least_length(many) <= 64)


if __name__ == "__main__":
    unittest.main()
