import itertools
import random
import unittest

from askedorder.errors import InvalidKeys, InvalidNumber
from askedorder.joins import joined
from askedorder.levels import merges
from askedorder.placing import placed
from askedorder.rows import stable_order
from askedorder.runs import run_of
from askedorder.sorting import count_of, order_of, pieces_of, questions_of, steps_of
from tests.reference_list import sort_by_keys
from tests.sort_rows import SHORT_THIRD, large_rows, runs_of, shapes, small_rows
from tests.values import Checking, keys_error, number_error

FUNCTIONS = (order_of, questions_of, count_of, pieces_of, steps_of)


def is_bool(value):
    return type(value) is bool


def rising_or_falling(keys):
    pairs = list(itertools.pairwise(keys))
    return all(one <= other for one, other in pairs) or all(one > other for one, other in pairs)


class Sorting(Checking, unittest.TestCase):
    def check(self, keys, reverse):
        expected = sort_by_keys(keys, reverse)
        pieces = [step[1:4] for step in expected.steps if step[0] == "piece"]
        self.assert_same(order_of(keys, reverse=reverse), expected.row)
        self.assert_same(questions_of(keys, reverse=reverse), expected.questions)
        self.assert_same(count_of(keys, reverse=reverse), len(expected.questions))
        self.assert_same(pieces_of(keys, reverse=reverse), pieces)
        self.assert_same(steps_of(keys, reverse=reverse), expected.steps)

    def test_small_rows(self):
        for keys in small_rows():
            self.check(keys, False)
            self.check(keys, True)

    def test_large_rows(self):
        for keys in large_rows():
            self.check(keys, False)
            self.check(keys, True)

    def test_reverse_is_false_by_default(self):
        for keys in ([1, 2, 2], [3, 1, 2, 2, 0]):
            for function in FUNCTIONS:
                self.assert_same(function(keys), function(keys, reverse=False))

    def test_none_and_one(self):
        for keys in ([], [7]):
            for reverse in (False, True):
                found = [function(keys, reverse=reverse) for function in FUNCTIONS]
                self.assert_same(found, [list(range(len(keys))), [], 0, [], []])

    def test_two(self):
        self.assertEqual([questions_of([1, 1]), order_of([1, 1])], [[(1, 0)], [0, 1]])
        self.assertEqual([questions_of([2, 1]), order_of([2, 1])], [[(1, 0)], [1, 0]])
        self.assertEqual([questions_of([2, 1], reverse=True), order_of([2, 1], reverse=True)], [[(0, 1)], [0, 1]])
        self.assertEqual([questions_of([1, 1], reverse=True), order_of([1, 1], reverse=True)], [[(0, 1)], [0, 1]])

    def test_up_to_63_keys_are_one_piece(self):
        falling = [(place * 7) % 64 for place in range(64)]
        self.assertEqual([length for _, _, length in pieces_of(falling[:63])], [63])
        self.assertEqual([length for _, _, length in pieces_of(falling)], [32, 32])
        self.assertEqual([length for _, _, length in pieces_of(falling + [0])], [33, 32])

    def test_the_last_piece_may_be_a_single_key(self):
        keys = list(range(100)) + [50]
        self.assertEqual(pieces_of(keys), [(0, 100, 100), (100, 1, 1)])
        self.assertEqual(steps_of(keys)[1][:4], ("piece", 100, 1, 1))
        self.assertEqual(steps_of(keys)[0][4], steps_of(keys)[1][4])

    def test_joins_of_both_kinds_and_orders(self):
        keys = runs_of(SHORT_THIRD)
        room = [(0, 64, 190), (0, 254, 890)]
        behind = [(1144, 300, 150), (1144, 450, 400), (0, 1144, 850)]
        self.assertEqual(merges(SHORT_THIRD), (room, behind))
        steps = steps_of(keys)
        self.assertEqual([length for _, _, length in pieces_of(keys)], SHORT_THIRD)
        self.assertEqual([step[1:4] for step in steps if step[0] == "join"], room + behind)
        # A piece is told ahead of the joins that make room for it.
        self.assertEqual([step[0] for step in steps[:6]], ["piece"] * 3 + ["join", "piece", "join"])

    def test_by_keyword_and_with_tuples(self):
        for function in FUNCTIONS:
            for keys in ([3, 1, 2], runs_of([70, 80])):
                self.assert_pure(function, keys)
                self.assert_pure(function, keys, reverse=True)

    def test_reverse_is_given_by_keyword_alone(self):
        for function in FUNCTIONS:
            with self.assertRaises(TypeError):
                function([1, 2], True)

    def test_most_keys(self):
        for function in FUNCTIONS:
            function([1] * 2000)
            self.assert_raises(InvalidKeys(-1), function, [1] * 2001)

    def test_wrong_arguments(self):
        errors = {"keys": keys_error, "reverse": number_error("reverse", is_bool)}
        more = {"keys": [[1, True], (2, 1, None), [[1], 2]]}
        for function in FUNCTIONS:
            self.assert_checked(function, {"keys": [2, 1, 2], "reverse": True}, errors, more)
            self.assert_raises(InvalidKeys(0), function, [None], reverse=None)
            self.assert_raises(InvalidNumber("reverse"), function, [], reverse=0)


class Steps(unittest.TestCase):
    """The steps against what other functions tell of their parts."""

    def test_steps_and_the_others(self):
        for keys in large_rows():
            for reverse in (False, True):
                steps = steps_of(keys, reverse=reverse)
                counts = [0] + [step[-1] for step in steps]
                self.assertEqual(counts, sorted(counts))
                self.assertEqual(counts[-1], count_of(keys, reverse=reverse))
                self.assertEqual(len(questions_of(keys, reverse=reverse)), count_of(keys, reverse=reverse))
                pieces = [step[1:4] for step in steps if step[0] == "piece"]
                self.assertEqual(pieces, pieces_of(keys, reverse=reverse))
                if pieces:
                    joins = [step[1:4] for step in steps if step[0] == "join"]
                    self.assertEqual(joins, sum(merges([length for _, _, length in pieces]), []))

    def test_each_step_asks_what_its_part_asks(self):
        for keys in large_rows():
            row = list(range(len(keys)))
            questions = questions_of(keys)
            patience = 7
            count = 0
            for step in steps_of(keys):
                asked = questions[count:step[-1]]
                count = step[-1]
                if step[0] == "piece":
                    self.check_piece(keys, row, step, asked)
                else:
                    patience = self.check_join(keys, row, step, asked, patience)
            self.assertEqual(row, order_of(keys))
            self.assertEqual(row, stable_order(keys))

    def check_piece(self, keys, row, step, asked):
        _, start, found, length, _ = step
        run_length, run, questions = run_of(keys, start)
        self.assertEqual((found, asked[:len(questions)]), (run_length, questions))
        row[start:start + found] = run
        stretch = row[start:start + length]
        if found < length:
            order, more = placed([keys[item] for item in stretch], found)
            questions = questions + [(stretch[one], stretch[other]) for one, other in more]
            row[start:start + length] = [stretch[place] for place in order]
        self.assertEqual(asked, questions)

    def check_join(self, keys, row, step, asked, patience):
        _, start, first, second, behind, _ = step
        stretch = row[start:start + first + second]
        values = [keys[item] for item in stretch]
        order, questions, found, _, _ = joined(values[:first], values[first:], patience)
        self.assertEqual(asked, [(stretch[one], stretch[other]) for one, other in questions])
        self.assertEqual(behind, found)
        row[start:start + first + second] = [stretch[place] for place in order]
        return behind


class Facts(unittest.TestCase):
    def test_the_order_is_the_stable_one(self):
        for keys in itertools.chain(small_rows(), large_rows()):
            for reverse in (False, True):
                self.assertEqual(order_of(keys, reverse=reverse), stable_order(keys, reverse=reverse))

    def test_neighbouring_keys_are_asked_about(self):
        for keys in itertools.chain(small_rows(), large_rows()):
            for reverse in (False, True):
                asked = questions_of(keys, reverse=reverse)
                pairs = {tuple(sorted((keys[one], keys[other]))) for one, other in asked}
                for pair in itertools.pairwise(sorted(set(keys))):
                    self.assertIn(pair, pairs)

    def test_of_equal_neighbours_the_later_one_is_asked_about(self):
        for keys in itertools.chain(small_rows(), large_rows()):
            asked = set(questions_of(keys))
            for one, other in itertools.pairwise(stable_order(keys)):
                if keys[one] == keys[other]:
                    self.assertIn((other, one), asked)

    def test_the_fewest_questions(self):
        for keys in itertools.chain(small_rows(), large_rows()):
            if keys:
                self.assertGreaterEqual(count_of(keys), len(keys) - 1)
                self.assertEqual(count_of(keys) == len(keys) - 1, rising_or_falling(keys))

    def test_a_pair_can_be_asked_about_twice(self):
        questions = questions_of([1, 3, 2])
        self.assertEqual(questions.count((2, 1)), 2)

    def test_the_questions_hang_on_the_order_of_the_keys_alone(self):
        numbers = random.Random(72)
        for keys in list(shapes(5)) + [[numbers.randrange(40) for _ in range(150)]]:
            others = [10 ** 30 * key - key * key - 7 for key in keys]
            self.assertEqual(questions_of(keys), questions_of(others))

    def test_reverse_turns_the_keys_about(self):
        for keys in itertools.chain(small_rows(), large_rows()):
            last = len(keys) - 1
            turned = [(last - one, last - other) for one, other in questions_of(keys[::-1])]
            self.assertEqual(questions_of(keys, reverse=True), turned)


if __name__ == "__main__":
    unittest.main()
