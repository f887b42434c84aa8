import itertools
import random
import unittest

from askedorder.errors import InvalidAnswers, InvalidKeys, InvalidNumber, InvalidQuestion, Mismatch, TooLarge
from askedorder.needed import follows, implied, kept, needless, open_pairs, settled_at, settles, wasted
from askedorder.rows import stable_order
from askedorder.sorting import count_of, order_of
from tests.logs import all_small_logs, honest_log, keys_that_fit, log_of, pairs_of, random_logs
from tests.sort_rows import small_rows
from tests.values import Checking, int_within, is_question, keys_error, log_error, number_error, odd_logs

many_error = number_error("many", int_within(0, 40))
reverse_error = number_error("reverse", lambda value: type(value) is bool)

WITH_REVERSE = (settles, open_pairs, needless, kept)


def follows_by_keys(many, log, question):
    one, other = question
    answers = {keys[one] < keys[other] for keys in keys_that_fit(many, log)}
    return answers.pop() if len(answers) == 1 else None


def orders_by_keys(many, log, reverse):
    """All stable orders of the keys of a log."""
    return {tuple(stable_order(keys, reverse=reverse)) for keys in keys_that_fit(many, log)}


def open_by_keys(many, log, reverse):
    orders = orders_by_keys(many, log, reverse)
    pairs = itertools.combinations(range(many), 2)
    return [pair for pair in pairs if len({order.index(pair[0]) < order.index(pair[1]) for order in orders}) == 2]


def settled_by_keys(many, log, reverse):
    return len(orders_by_keys(many, log, reverse)) == 1


def settling_logs():
    """Tuples (many, log) of honest logs that settle the order, at least without `reverse`."""
    numbers = random.Random(121)
    for keys in small_rows():
        if 0 < len(keys) < 5:
            yield len(keys), log_of(keys)
            yield len(keys), honest_log(keys, itertools.combinations(range(len(keys) - 1, -1, -1), 2))
    for many in (1, 2, 3, 4):
        for _ in range(40):
            keys = [numbers.randrange(many) for _ in range(many)]
            questions = pairs_of(many) + [numbers.choice(pairs_of(many)) for _ in range(3) if many > 1]
            numbers.shuffle(questions)
            yield many, honest_log(keys, questions)


def check_log(case, function, errors=None, right=None):
    """Checks what a function raises for wrong arguments, and that a lie comes behind all of them."""
    all_errors = {"many": many_error, "log": lambda value: log_error(value, 3), **(errors or {})}
    all_right = {"many": 3, "log": [((1, 0), True), ((2, 1), True)], **(right or {})}
    case.assert_checked(function, all_right, all_errors, {"log": odd_logs(), "many": [41]})
    lie = [((1, 0), True), ((2, 1), True), ((0, 2), True)]
    case.assert_raises(Mismatch("log"), function, **{**all_right, "log": lie})
    case.assert_raises(InvalidNumber("many"), function, **{**all_right, "many": 41, "log": lie})
    case.assert_raises(InvalidAnswers(3), function, **{**all_right, "log": lie + [None]})
    for name in errors or {}:
        with case.assertRaises((InvalidQuestion, InvalidNumber)):
            function(**{**all_right, "log": lie, name: None})


class Follows(Checking, unittest.TestCase):
    def test_against_all_keys(self):
        for many, log in all_small_logs():
            for question in pairs_of(many):
                if keys_that_fit(many, log):
                    found = self.assert_pure(follows_with_tuple, many, log, question)
                    self.assert_same(found, follows_by_keys(many, log, question))
                else:
                    self.assert_raises(Mismatch("log"), follows, many, log, question)

    def test_chains_of_40_items(self):
        for strict in (None, 0, 20, 38):
            log = [((at, at + 1), True) if at == strict else ((at + 1, at), False) for at in range(39)]
            for entries in (log, log[::-1]):
                for one, other in pairs_of(40):
                    expected = None
                    if strict is not None and one <= strict < other:
                        expected = True
                    elif one > other:
                        expected = False
                    self.assertIs(follows(40, entries, (one, other)), expected)

    def test_equal_items(self):
        ring = [((at, (at + 1) % 40), False) for at in range(40)]
        for question in pairs_of(40):
            self.assertIs(follows(40, ring, question), False)
        self.assert_raises(Mismatch("log"), follows, 40, ring + [((3, 30), True)], (0, 1))

    def test_the_same_question_twice_and_the_other_way_round(self):
        log = [((0, 1), True), ((0, 1), True), ((1, 0), False)]
        self.assertEqual([follows(2, log, (0, 1)), follows(2, log, (1, 0))], [True, False])
        log = [((0, 1), False), ((0, 1), False)]
        self.assertEqual([follows(2, log, (0, 1)), follows(2, log, (1, 0))], [False, None])
        self.assertEqual([follows(2, log + [((1, 0), False)], (0, 1)), follows(2, log, (1, 0))], [False, None])
        self.assert_raises(Mismatch("log"), follows, 2, log + [((0, 1), True)], (0, 1))

    def test_wrong_arguments(self):
        def error(value):
            return None if is_question(value, 3) else InvalidQuestion(value)

        check_log(self, follows, {"question": error}, {"question": (0, 1)})
        for question in ([0, 1], (0, 0), (0, 3), (-1, 0), (True, 0), (0, 1, 2), (0,)):
            self.assert_raises(InvalidQuestion(question), follows, 3, [], question)
        self.assert_raises(InvalidQuestion((0, 1)), follows, 1, [], (0, 1))


def follows_with_tuple(many, log, question):
    """follows, with a question that may be a list: it is no argument of which both kinds are accepted."""
    return follows(many, log, tuple(question))


class Implied(Checking, unittest.TestCase):
    def test_against_all_keys(self):
        for many, log in all_small_logs():
            if keys_that_fit(many, log):
                expected = [
                    place for place, (question, _) in enumerate(log)
                    if follows_by_keys(many, log[:place], question) is not None
                ]
                self.assert_same(self.assert_pure(implied, many, log), expected)
            else:
                self.assert_raises(Mismatch("log"), implied, many, log)

    def test_twice_and_the_other_way_round(self):
        log = [((0, 1), True), ((0, 1), True), ((1, 0), False), ((2, 1), False), ((1, 2), False), ((2, 0), False)]
        self.assertEqual(implied(3, log), [1, 2, 5])
        self.assertEqual(implied(0, []), [])

    def test_a_lie_behind_what_follows(self):
        self.assert_raises(Mismatch("log"), implied, 2, [((0, 1), True), ((0, 1), True), ((1, 0), True)])

    def test_wrong_arguments(self):
        check_log(self, implied)


class Settles(Checking, unittest.TestCase):
    def test_against_all_keys(self):
        for many, log in all_small_logs():
            for reverse in (False, True):
                orders = orders_by_keys(many, log, reverse)
                if orders:
                    expected = list(orders.pop()) if len(orders) == 1 else None
                    self.assert_same(self.assert_pure(settles, many, log, reverse=reverse), expected)
                    found = self.assert_pure(open_pairs, many, log, reverse=reverse)
                    self.assert_same(found, open_by_keys(many, log, reverse))
                else:
                    self.assert_raises(Mismatch("log"), settles, many, log, reverse=reverse)
                    self.assert_raises(Mismatch("log"), open_pairs, many, log, reverse=reverse)

    def test_none_and_one(self):
        for many in (0, 1):
            for reverse in (False, True):
                self.assertEqual(settles(many, [], reverse=reverse), list(range(many)))
                self.assertEqual(open_pairs(many, [], reverse=reverse), [])
        self.assertEqual([settles(2, []), open_pairs(2, [])], [None, [(0, 1)]])

    def test_40_items(self):
        rising = [((at + 1, at), False) for at in range(39)]
        falling = [((at + 1, at), True) for at in range(39)]
        pairs = list(itertools.combinations(range(40), 2))
        self.assertEqual([settles(40, rising), settles(40, rising, reverse=True)], [list(range(40)), None])
        self.assertEqual([open_pairs(40, rising), open_pairs(40, rising, reverse=True)], [[], pairs])
        self.assertEqual(settles(40, falling), list(range(39, -1, -1)))
        self.assertEqual(settles(40, falling, reverse=True), list(range(40)))
        self.assertEqual(settles(40, rising[:20] + rising[21:]), None)
        opened = open_pairs(40, rising[:20] + rising[21:])
        self.assertEqual(opened, [(one, other) for one, other in pairs if one <= 20 < other])
        numbers = random.Random(122)
        for kinds in (3, 40, 1000):
            keys = [numbers.randrange(kinds) for _ in range(40)]
            for reverse in (False, True):
                log = log_of(keys, reverse)
                self.assertEqual(settles(40, log, reverse=reverse), order_of(keys, reverse=reverse))
                self.assertEqual(open_pairs(40, log, reverse=reverse), [])
                self.assertIs(settles(40, log[:30], reverse=reverse), None)

    def test_reverse_is_false_by_default(self):
        log = [((1, 0), False)]
        self.assertEqual([settles(2, log), open_pairs(2, log)], [[0, 1], []])
        self.assertEqual([settles(2, log, reverse=True), open_pairs(2, log, reverse=True)], [None, [(0, 1)]])

    def test_wrong_arguments(self):
        for function in WITH_REVERSE:
            check_log(self, function, {"reverse": reverse_error}, {"reverse": False})


class Needless(Checking, unittest.TestCase):
    def needless_by_keys(self, many, log, reverse):
        places = range(len(log))
        return [place for place in places if settled_by_keys(many, log[:place] + log[place + 1:], reverse)]

    def kept_by_keys(self, many, log, reverse):
        remaining = list(range(len(log)))
        for place in range(len(log))[::-1]:
            others = [other for other in remaining if other != place]
            if settled_by_keys(many, [log[other] for other in others], reverse):
                remaining = others
        return remaining

    def test_against_all_keys(self):
        for many, log in settling_logs():
            for reverse in (False, True):
                if settled_by_keys(many, log, reverse):
                    found = self.assert_pure(needless, many, log, reverse=reverse)
                    self.assert_same(found, self.needless_by_keys(many, log, reverse))
                    found = self.assert_pure(kept, many, log, reverse=reverse)
                    self.assert_same(found, self.kept_by_keys(many, log, reverse))
                else:
                    self.assert_raises(Mismatch("open"), needless, many, log, reverse=reverse)
                    self.assert_raises(Mismatch("open"), kept, many, log, reverse=reverse)

    def test_none_and_one(self):
        for many in (0, 1):
            self.assertEqual([needless(many, []), kept(many, [])], [[], []])

    def test_twelve_items(self):
        numbers = random.Random(123)
        for keys in (list(range(12)), list(range(12))[::-1], [numbers.randrange(6) for _ in range(12)]):
            for reverse in (False, True):
                log = log_of(keys, reverse)
                log += [numbers.choice(log) for _ in range(100 - len(log))]
                places = kept(12, log, reverse=reverse)
                settled = [log[place] for place in places]
                self.assertEqual(settles(12, settled, reverse=reverse), stable_order(keys, reverse=reverse))
                self.assertEqual(needless(12, settled, reverse=reverse), [])
                self.assertEqual(kept(12, settled, reverse=reverse), list(range(len(settled))))
                alone = needless(12, log, reverse=reverse)
                self.assertLessEqual(set(range(len(log))) - set(places), set(alone))
                self.assert_raises(TooLarge(100), kept, 12, log + log[:1], reverse=reverse)
                self.assert_raises(TooLarge(100), needless, 12, log + log[:1], reverse=reverse)

    def test_too_large(self):
        rising = [((at + 1, at), False) for at in range(12)]
        open_log = rising[:-1]
        lie = rising + [((0, 12), False), ((12, 0), True)]
        for function in (needless, kept):
            self.assert_raises(TooLarge(12), function, 13, rising)
            self.assert_raises(TooLarge(12), function, 13, rising * 30)
            self.assert_raises(TooLarge(100), function, 12, open_log * 10)
            self.assertEqual(function(12, open_log * 9)[-1] > 0, True)
            # What does not settle the order, and what is not honest, comes first.
            self.assert_raises(Mismatch("open"), function, 13, open_log)
            self.assert_raises(Mismatch("open"), function, 13, open_log * 30)
            self.assert_raises(Mismatch("open"), function, 12, open_log[1:] * 30)
            self.assert_raises(Mismatch("log"), function, 13, lie)
            self.assert_raises(Mismatch("open"), function, 2, [])

    def test_the_last_ones_are_left_out_first(self):
        log = [((1, 0), False), ((2, 0), False), ((2, 1), False), ((1, 0), False)]
        self.assertEqual([needless(3, log), kept(3, log)], [[0, 1, 3], [0, 2]])
        self.assertEqual(kept(3, log[::-1]), [0, 1])


class Wasted(Checking, unittest.TestCase):
    def test_few_keys(self):
        for keys in small_rows():
            if len(keys) < 5:
                for reverse in (False, True):
                    self.check(keys, reverse, settled_by_keys)

    def check(self, keys, reverse, is_settled):
        many = len(keys)
        log = log_of(keys, reverse)
        self.assert_same(self.assert_pure(wasted, keys, reverse=reverse), implied(many, log))
        counts = [count for count in range(len(log) + 1) if is_settled(many, log[:count], reverse)]
        self.assert_same(self.assert_pure(settled_at, keys, reverse=reverse), counts[0])

    def test_many_keys(self):
        numbers = random.Random(124)

        def is_settled(many, log, reverse):
            return settles(many, log, reverse=reverse) is not None

        for many in (10, 40):
            for keys in (
                [numbers.randrange(1000) for _ in range(many)], [numbers.randrange(3) for _ in range(many)],
                list(range(many)), list(range(many))[::-1], [5] * many, [-place // 3 for place in range(many)],
            ):
                self.check(keys, False, is_settled)
                self.check(keys, True, is_settled)

    def test_runs(self):
        for many in (2, 3, 40):
            rising, falling, equal = list(range(many)), list(range(many, 0, -1)), [0] * many
            for keys, reverse in ((rising, False), (falling, False), (equal, False), (equal, True)):
                self.assertEqual([wasted(keys, reverse=reverse), settled_at(keys, reverse=reverse)], [[], many - 1])

    def test_none_and_one(self):
        for keys in ([], [3]):
            for reverse in (False, True):
                self.assertEqual([wasted(keys, reverse=reverse), settled_at(keys, reverse=reverse)], [[], 0])

    def test_wrong_arguments(self):
        errors = {"keys": lambda value: keys_error(value, 0, 40), "reverse": reverse_error}
        more = {"keys": [[1] * 41, [1, True], (1, None, 2), [[1]]]}
        for function in (wasted, settled_at):
            self.assert_checked(function, {"keys": [2, 1], "reverse": False}, errors, more)
            self.assert_raises(InvalidKeys(-1), function, list(range(41)))


class Facts(unittest.TestCase):
    def test_what_follows_are_steps(self):
        numbers = random.Random(125)
        for log in random_logs(numbers, 5, 8, 150):
            steps = [(one, other, True) if answer else (other, one, False) for (one, other), answer in log]
            reached = [{(item, False)} for item in range(5)]
            for _ in range(10):
                for item, (low, high, is_strict) in itertools.product(range(5), steps):
                    for has_less in (False, True):
                        if (low, has_less) in reached[item]:
                            reached[item].add((high, has_less or is_strict))
            if any((item, True) in reached[item] for item in range(5)):
                with self.assertRaises(Mismatch):
                    implied(5, log)
                continue
            for one, other in pairs_of(5):
                is_less = (other, True) in reached[one]
                is_not = any(item == one for item, _ in reached[other])
                self.assertIs(follows(5, log, (one, other)), True if is_less else False if is_not else None)

    def test_a_sort_settles_the_order(self):
        for keys in small_rows():
            for reverse in (False, True):
                found = settles(len(keys), log_of(keys, reverse), reverse=reverse)
                self.assertEqual(found, stable_order(keys, reverse=reverse))
                self.assertLessEqual(settled_at(keys, reverse=reverse), count_of(keys, reverse=reverse))

    def test_what_follows_from_others_can_be_left_out(self):
        numbers = random.Random(126)
        for log in random_logs(numbers, 4, 7, 100):
            if keys_that_fit(4, log):
                for place, (question, _) in enumerate(log):
                    others = log[:place] + log[place + 1:]
                    if follows(4, others, question) is not None:
                        self.assertEqual(keys_that_fit(4, others), keys_that_fit(4, log))

    def test_which_answers_tell_what_stands_first(self):
        for reverse in (False, True):
            decides, tells_if_true = ((0, 1), (1, 0)) if reverse else ((1, 0), (0, 1))
            for answer in (False, True):
                self.assertIsNot(settles(2, [(decides, answer)], reverse=reverse), None)
                found = settles(2, [(tells_if_true, answer)], reverse=reverse)
                self.assertEqual(found is not None, answer)


if __name__ == "__main__":
    unittest.main()
