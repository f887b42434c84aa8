import collections
import fractions
import itertools
import random
import unittest

from askedorder.answers import (
    answers_for, are_honest, ended_rows, first_lie, honest_rows, judged, least_keys, told,
)
from askedorder.errors import InvalidAnswers, InvalidNumber, InvalidOrder
from askedorder.live import Sorter
from askedorder.rows import stable_order
from askedorder.sorting import order_of, questions_of
from tests.logs import all_small_logs, few_logs, fits, keys_that_fit, log_of, random_logs
from tests.sort_rows import runs_of, shapes, small_rows
from tests.values import (
    Checking, answers_error, int_within, log_error, number_error, odd_logs, order_error,
)

many_error = number_error("many", int_within(0, 300))
reverse_error = number_error("reverse", lambda value: type(value) is bool)


def all_rows(many, reverse=False):
    """All rows of answers that lead a sort just to its end."""
    waiting = [[]]
    while waiting:
        answers = waiting.pop()
        if told(many, answers, reverse=reverse)[1] is None:
            yield answers
        else:
            waiting += [answers + [False], answers + [True]]


def ranks_of(keys):
    """The least keys from 0 on that stand to one another as others do."""
    return [sorted(set(keys)).index(key) for key in keys]


def ring(many, strict):
    """A log of a ring through all items: the key of each one is not greater than that of the next one."""
    log = [((item + 1, item), False) for item in range(many - 1)]
    return log + [((many - 1, 0), True) if strict else ((0, many - 1), False)]


class Told(Checking, unittest.TestCase):
    def check(self, many, answers, reverse):
        sorter = Sorter(many, reverse=reverse)
        for count in range(len(answers) + 1):
            if count in (0, 1, 2, len(answers) // 2, len(answers)):
                found = self.assert_pure(told, many, answers[:count], reverse=reverse)
                self.assert_same(found, (sorter.asked(), sorter.wanted(), sorter.order()))
            if count < len(answers):
                sorter.reply(answers[count])

    def test_against_a_sorter(self):
        numbers = random.Random(92)
        for many in (0, 1, 2, 3, 10, 64, 200, 300):
            for share in (0, 0.1, 0.5, 1):
                for reverse in (False, True):
                    sorter = Sorter(many, reverse=reverse)
                    while sorter.wanted() is not None:
                        sorter.reply(numbers.random() < share)
                    self.check(many, [answer for _, answer in sorter.asked()], reverse)

    def test_all_answers_for_few_items(self):
        for many in range(5):
            for reverse in (False, True):
                for answers in all_rows(many, reverse):
                    self.check(many, answers, reverse)
                    for more in ([True], [False, False]):
                        self.assert_raises(
                            InvalidAnswers(len(answers)), told, many, answers + more, reverse=reverse,
                        )

    def test_reverse_is_false_by_default(self):
        self.assertEqual(told(3, [True]), told(3, [True], reverse=False))
        self.assertNotEqual(told(3, [True]), told(3, [True], reverse=True))

    def test_too_many_answers(self):
        self.assert_raises(InvalidAnswers(0), told, 0, [True])
        self.assert_raises(InvalidAnswers(0), told, 1, (False, False))
        self.assert_raises(InvalidAnswers(1), told, 2, [True] * 20000)
        self.assert_raises(InvalidAnswers(299), told, 300, [False] * 300)

    def test_wrong_arguments(self):
        errors = {"many": many_error, "answers": answers_error, "reverse": reverse_error}
        more = {"answers": [[True, 1], (False, True, None, 0), [[True]]], "many": [301]}
        self.assert_checked(told, {"many": 3, "answers": [True], "reverse": False}, errors, more)
        # An answer too many comes behind all other errors.
        self.assert_raises(InvalidAnswers(1), told, 0, [True, 0])
        self.assert_raises(InvalidNumber("reverse"), told, 0, [True], reverse=None)


class Judged(Checking, unittest.TestCase):
    def check(self, many, log, reverse):
        """Against a sorter that is answered as long as the log asks as it does."""
        sorter = Sorter(many, reverse=reverse)
        expected = None
        for place, (question, answer) in enumerate(log):
            if sorter.wanted() != question:
                expected = ("unlike", place)
                break
            sorter.reply(answer)
        if expected is None:
            ended = sorter.wanted() is None
            expected = ("ended", sorter.order()) if ended else ("open", sorter.wanted())
        self.assert_same(self.assert_pure(judged, many, log, reverse=reverse), expected)
        return expected[0]

    def test_all_small_logs(self):
        for many, log in all_small_logs():
            self.check(many, log, False)
            self.check(many, log, True)

    def test_logs_of_sorts_and_their_damage(self):
        numbers = random.Random(93)
        kinds = collections.Counter()
        for keys in ([2, 1], [1, 3, 2, 2, 0], list(range(20)), [numbers.randrange(30) for _ in range(90)], runs_of([70, 64])):
            for reverse in (False, True):
                log = log_of(keys, reverse)
                many = len(keys)
                self.assertEqual(judged(many, log, reverse=reverse), ("ended", order_of(keys, reverse=reverse)))
                for at in numbers.sample(range(len(log)), min(len(log), 12)):
                    other = numbers.randrange(len(log))
                    exchanged = list(log)
                    exchanged[at], exchanged[other] = log[other], log[at]
                    lied = [*log[:at], (log[at][0], not log[at][1]), *log[at + 1:]]
                    twice = [*log[:at], log[at], *log[at:]]
                    turned = [*log[:at], (log[at][0][::-1], log[at][1]), *log[at + 1:]]
                    for damaged in (log[:at], log[:at] + log[at + 1:], twice, exchanged, lied, turned, log + [log[at]]):
                        kinds[self.check(many, damaged, reverse)] += 1
                    self.assertEqual(judged(many, log + [log[at]], reverse=reverse), ("unlike", len(log)))
        self.assertEqual(set(kinds), {"unlike", "open", "ended"})

    def test_few_items(self):
        for many in (0, 1):
            self.assertEqual(judged(many, []), ("ended", list(range(many))))
        self.assertEqual(judged(2, []), ("open", (1, 0)))
        self.assertEqual(judged(2, [], reverse=True), ("open", (0, 1)))
        self.assertEqual(judged(2, [((1, 0), False), ((1, 0), False)]), ("unlike", 1))

    def test_wrong_arguments(self):
        check_log(self, judged, {"reverse": reverse_error}, {"reverse": True})

    def test_as_many_entries_as_can_be(self):
        log = [((1, 0), True)] * 5000
        self.assertEqual(judged(2, log), ("unlike", 1))
        self.assert_raises(InvalidAnswers(-1), judged, 2, log + log[:1])


def check_log(case, function, errors=None, right=None):
    """Checks what a function raises for arguments that are no number of items, and no log."""
    all_errors = {"many": many_error, "log": lambda value: log_error(value, 3), **(errors or {})}
    all_right = {"many": 3, "log": [((0, 1), True)], **(right or {})}
    case.assert_checked(function, all_right, all_errors, {"log": odd_logs(), "many": [301]})
    # Whether a question is one hangs on the number of items.
    case.assert_raises(InvalidAnswers(1), function, 2, [((0, 1), True), ((0, 2), True)])
    case.assert_raises(InvalidAnswers(0), function, 1, (((0, 1), True),))
    case.assert_raises(InvalidAnswers(0), function, 0, [None])


class Honest(Checking, unittest.TestCase):
    def check(self, many, log):
        """Against all rows of keys."""
        lies = [place for place in range(len(log)) if not keys_that_fit(many, log[:place + 1])]
        self.assertIs(self.assert_pure(are_honest, many, log), not lies)
        self.assert_same(self.assert_pure(first_lie, many, log), lies[0] if lies else None)
        keys = None if lies else [min(column) for column in zip(*keys_that_fit(many, log))]
        if not lies and many:
            self.assertTrue(fits(keys, log))
        self.assert_same(self.assert_pure(least_keys, many, log), keys)

    def test_all_small_logs(self):
        for many, log in all_small_logs():
            self.check(many, log)

    def test_without_entries(self):
        for many in (0, 1, 2, 300):
            found = [are_honest(many, []), first_lie(many, ()), least_keys(many, [])]
            self.assert_same(found, [True, None, [0] * many])

    def test_rings_of_many_steps(self):
        for many in (2, 3, 50, 300):
            log = ring(many, True)
            self.assertEqual([are_honest(many, log), first_lie(many, log)], [False, many - 1])
            self.assertIs(least_keys(many, log), None)
            self.assertEqual(least_keys(many, log[:-1]), [0] * many)
            log = ring(many, False)
            self.assertEqual([are_honest(many, log), first_lie(many, log)], [True, None])
            # All keys are equal now, so that none can be less.
            for one, other in ((0, 1), (many - 1, 0), (many // 2, 0), (0, many // 2)):
                if one != other:
                    self.assertEqual(first_lie(many, log + [((one, other), False)]), None)
                    self.assertEqual(first_lie(many, log + [((one, other), True)]), many)

    def test_a_ring_that_is_closed_in_its_middle(self):
        log = [((item, item + 1), True) for item in range(299) if item != 150]
        self.assertEqual(least_keys(300, log), [*range(151), *range(149)])
        self.assertEqual(first_lie(300, log + [((299, 0), False)]), None)
        self.assertEqual(first_lie(300, log + [((299, 0), True)]), None)
        self.assertEqual(first_lie(300, log + [((299, 0), True), ((151, 150), False)]), 299)
        self.assertEqual(first_lie(300, log + [((150, 151), True), ((0, 299), False)]), 299)

    def test_honest_logs_of_many_items(self):
        numbers = random.Random(94)
        for keys in ([numbers.randrange(40) for _ in range(300)], list(range(300)), [0] * 300, runs_of([100, 100, 99])):
            for reverse in (False, True):
                log = log_of(keys, reverse)
                many = len(keys)
                self.assertTrue(are_honest(many, log))
                self.assertIs(first_lie(many, log), None)
                least = least_keys(many, log)
                self.assertTrue(fits(least, log))
                self.assertTrue(all(one <= other for one, other in zip(least, ranks_of(keys))))
                at = numbers.randrange(1, len(log))
                question, answer = log[at]
                self.assertEqual(first_lie(many, log + [(question, not answer)]), len(log))

    def test_as_many_entries_as_can_be(self):
        numbers = random.Random(95)
        pairs = list(itertools.permutations(range(300), 2))
        keys = [numbers.randrange(300) for _ in range(300)]
        log = [((one, other), keys[one] < keys[other]) for one, other in numbers.sample(pairs, 5000)]
        self.assertTrue(are_honest(300, log))
        least = least_keys(300, log)
        self.assertTrue(fits(least, log))
        self.assertTrue(all(one <= other for one, other in zip(least, ranks_of(keys))))
        lied = log[:2500] + [(log[0][0], not log[0][1])] + log[2501:]
        self.assertEqual(first_lie(300, lied), 2500)
        for function in (are_honest, first_lie, least_keys, judged):
            self.assert_raises(InvalidAnswers(-1), function, 300, log + log[:1])

    def test_wrong_arguments(self):
        for function in (are_honest, first_lie, least_keys):
            check_log(self, function)

    def test_a_long_chain_of_both_kinds_of_steps(self):
        log = [((item, item + 1), True) if item % 3 else ((item + 1, item), False) for item in range(299)]
        expected = [item - (item + 2) // 3 for item in range(300)]
        self.assertEqual(least_keys(300, log), expected)
        self.assertEqual(least_keys(300, log[::-1]), expected)


class AnswersFor(Checking, unittest.TestCase):
    def check(self, order, reverse):
        answers = self.assert_pure(answers_for, order, reverse=reverse)
        log, question, ended = told(len(order), answers, reverse=reverse)
        self.assertEqual((question, ended), (None, list(order)))
        keys = [0] * len(order)
        for place, item in enumerate(order):
            keys[item] = len(order) - place if reverse else place
        self.assert_same([answer for _, answer in log], answers)
        self.assertTrue(fits(keys, log))
        self.assertEqual([asked for asked, _ in log], questions_of(keys, reverse=reverse))

    def test_each_order_of_few_items(self):
        for many in range(7):
            for order in itertools.permutations(range(many)):
                self.check(order, False)
                self.check(list(order), True)

    def test_many_items(self):
        numbers = random.Random(96)
        for many in (63, 64, 65, 200, 300):
            for order in (list(range(many)), list(range(many))[::-1], numbers.sample(range(many), many)):
                self.check(order, False)
                self.check(order, True)
        self.assert_raises(InvalidOrder(-1), answers_for, list(range(301)))

    def test_reverse_is_false_by_default(self):
        self.assertEqual(answers_for([1, 2, 0]), answers_for([1, 2, 0], reverse=False))

    def test_wrong_arguments(self):
        errors = {"order": lambda value: order_error(value, 300), "reverse": reverse_error}
        more = [[1, 1], (0, 2), [0, 1, -1], [0, True], [2, 0, 2, 1], [True, 0], [None] * 301, [0, [], 1], [1, 0, 0]]
        self.assert_checked(answers_for, {"order": [1, 0], "reverse": True}, errors, {"order": more})


class Rows(Checking, unittest.TestCase):
    def test_ended_rows_against_all_rows(self):
        for many in range(6):
            expected = sorted(collections.Counter(map(len, all_rows(many))).items())
            self.assert_same(self.assert_pure(ended_rows, many), expected)

    def test_none_and_one(self):
        self.assertEqual([ended_rows(0), ended_rows(1)], [[(0, 1)], [(0, 1)]])

    def test_all_rows_together_are_all_answers(self):
        for many in range(64):
            rows = ended_rows(many)
            self.assertEqual(sum(fractions.Fraction(number, 2 ** count) for count, number in rows), 1)
            counts = [count for count, _ in rows]
            self.assertEqual(counts, sorted(set(counts)))
            self.assertGreater(min(number for _, number in rows), 0)

    def test_63_items_by_all_runs(self):
        self.assertEqual(ended_rows(63), rows_by_states(63))
        self.assertEqual(ended_rows(20), rows_by_states(20))

    def test_honest_rows(self):
        for many in range(6):
            expected = len({tuple(answer for _, answer in log_of(keys)) for keys in shapes(many)})
            self.assert_same(self.assert_pure(honest_rows, many), expected)
        for many in range(5):
            honest = [row for row in all_rows(many) if are_honest(many, told(many, row)[0])]
            self.assertEqual(honest_rows(many), len(honest))

    def test_wrong_arguments(self):
        for function, most in ((ended_rows, 63), (honest_rows, 5)):
            error = number_error("many", int_within(0, most))
            self.assert_checked(function, {"many": 2}, {"many": error}, {"many": [most + 1]})


def rows_by_states(many):
    """ended_rows, by going through the states in which a sort can be: how many rows lead to each of them."""
    ended = collections.Counter()
    # A state of step 1, 3 or 5 of finding a run, or a placing (index, low, high), and the answers so far.
    waiting = {(("run", 1, 1), 0): 1}
    while waiting:
        further = collections.Counter()
        for (state, count), rows in waiting.items():
            for answer in (False, True):
                ahead = after(state, answer, many)
                if ahead is None:
                    ended[count + 1] += rows
                else:
                    further[ahead, count + 1] += rows
        waiting = further
    return sorted(ended.items())


def after(state, answer, many):
    """The state behind an answer, None at the end of the sort."""
    if state[0] == "place":
        _, index, low, high = state
        middle = (low + high) // 2
        low, high = (low, middle) if answer else (middle + 1, high)
        return ("place", index, low, high) if low < high else placing(index + 1, many)
    _, step, p = state
    if (step, answer) in ((1, False), (2, False), (3, True), (5, False)):
        return finding({1: 1, 2: 3, 3: 3, 5: 5}[step], p + 1, many)
    if step == 1:
        return finding(3, 2, many) if p == 1 else ("run", 2, p)
    if step == 3:
        return ("run", 4, p)
    if step == 4:
        return finding(5, p, many) if answer else finding(3, p + 1, many)
    return placing(p, many)


def finding(step, p, many):
    return ("run", step, p) if p < many else None


def placing(index, many):
    return ("place", index, 0, index) if index < many else None


class Facts(unittest.TestCase):
    def test_least_keys_of_ended_honest_logs(self):
        numbers = random.Random(97)
        rows = [*small_rows(), *([numbers.randrange(50) for _ in range(100)] for _ in range(5)), runs_of([80, 90, 70])]
        for keys in rows:
            for reverse in (False, True):
                log = log_of(keys, reverse)
                least = least_keys(len(keys), log)
                order = order_of(keys, reverse=reverse)
                self.assertEqual(stable_order(least, reverse=reverse), order)
                self.assertEqual(questions_of(least, reverse=reverse), questions_of(keys, reverse=reverse))

    def test_dishonest_logs_have_a_ring(self):
        numbers = random.Random(98)
        logs = itertools.chain(few_logs(3, 2), random_logs(numbers, 4, 6, 300), random_logs(numbers, 5, 12, 100))
        for log in logs:
            self.assertEqual(are_honest(5, log), not has_ring(5, log))


def has_ring(many, log):
    """Whether there is a ring of steps of which one at least tells "less"."""
    steps = [(one, other, True) if answer else (other, one, False) for (one, other), answer in log]
    reached = [{(item, False)} for item in range(many)]
    for _ in range(2 * many):
        for item in range(many):
            for low, high, is_strict in steps:
                for has_less in (False, True):
                    if (low, has_less) in reached[item]:
                        reached[item].add((high, has_less or is_strict))
    return any((item, True) in reached[item] for item in range(many))


if __name__ == "__main__":
    unittest.main()
