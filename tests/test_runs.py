import functools
import itertools
import sys
import unittest

from askedorder.errors import InvalidAnswers, InvalidKeys, InvalidNumber, Mismatch
from askedorder.rows import honest, stable_order
from askedorder.runs import run_lengths, run_of, standing, told_run
from tests import reference
from tests.values import HUGE, Raising, first_index, is_answers, is_int, is_keys, odd_values


def small_keys(most):
    """All rows of at most so many keys, with each way to stand to one another."""
    for many in range(most + 1):
        yield from itertools.product(range(many), repeat=many)


def long_rows():
    """Rows of up to 2,000 keys, of several kinds."""
    yield [0] * 2000
    yield list(range(2000))
    yield list(range(2000, 0, -1))
    yield [place // 3 for place in range(2000)]
    yield [-(place // 3) for place in range(2000)]
    yield [place * place % 13 for place in range(2000)]
    yield [-(place // 7) + place % 2 for place in range(500)]
    yield [-min(place // 4, 100) + max(place - 700, 0) for place in range(1000)]


def told_runs(many):
    """All rows of answers that do not go on behind the run, each with what is told of it."""
    waiting = [[]]
    while waiting:
        answers = waiting.pop()
        found = told_run(many, answers)
        yield answers, found
        if found[0] is None:
            waiting += [answers + [False], answers + [True]]


def wrong_index(keys):
    if type(keys) in (list, tuple):
        return first_index(keys, lambda key: not is_int(key))
    return -1


class RunOf(Raising, unittest.TestCase):
    def test_example(self):
        self.assertEqual(run_of([3, 1, 2], 0), (2, [1, 0], [(1, 0), (2, 1), (1, 2), (2, 0)]))

    def test_one_item(self):
        self.assertEqual(run_of([5], 0), (1, [0], []))
        self.assertEqual(run_of([5, 4, 3], 2), (1, [2], []))

    def test_rising(self):
        self.assertEqual(run_of([1, 2, 2, 3], 0), (4, [0, 1, 2, 3], [(1, 0), (2, 1), (3, 2)]))

    def test_rising_up_to_a_lesser_one(self):
        self.assertEqual(run_of([1, 2, 0], 0), (2, [0, 1], [(1, 0), (2, 1), (0, 1)]))

    def test_falling(self):
        self.assertEqual(run_of([3, 2, 1], 0), (3, [2, 1, 0], [(1, 0), (2, 1)]))

    def test_falling_with_equal_items_at_its_beginning(self):
        expected = (4, [3, 2, 0, 1], [(1, 0), (2, 1), (0, 1), (3, 2)])
        self.assertEqual(run_of([3, 3, 2, 1], 0), expected)

    def test_falling_with_equal_items_amid_it(self):
        expected = (4, [3, 1, 2, 0], [(1, 0), (2, 1), (1, 2), (3, 2)])
        self.assertEqual(run_of([3, 2, 2, 1], 0), expected)

    def test_falling_with_equal_items_at_its_end(self):
        expected = (4, [2, 3, 1, 0], [(1, 0), (2, 1), (3, 2), (2, 3)])
        self.assertEqual(run_of([3, 2, 1, 1], 0), expected)

    def test_falling_with_equal_items_everywhere(self):
        length, found, _ = run_of([3, 3, 3, 2, 2, 1, 1, 1], 0)
        self.assertEqual((length, found), (8, [5, 6, 7, 3, 4, 0, 1, 2]))

    def test_falling_that_goes_on_rising(self):
        expected = (4, [1, 0, 2, 3], [(1, 0), (2, 1), (1, 2), (2, 0), (3, 2)])
        self.assertEqual(run_of([2, 1, 2, 3], 0), expected)

    def test_falling_that_goes_on_rising_up_to_a_lesser_one(self):
        expected = (3, [1, 0, 2], [(1, 0), (2, 1), (1, 2), (2, 0), (3, 2)])
        self.assertEqual(run_of([2, 1, 4, 3], 0), expected)

    def test_falling_to_equal_items_then_a_greater_one(self):
        expected = (4, [1, 2, 0, 3], [(1, 0), (2, 1), (1, 2), (3, 2), (2, 3), (3, 0)])
        self.assertEqual(run_of([2, 1, 1, 5], 0), expected)

    def test_a_start_amid_the_row(self):
        self.assertEqual(run_of([0, 9, 3, 1, 2], 2), (2, [3, 2], [(3, 2), (4, 3), (3, 4), (4, 2)]))
        self.assertEqual(run_of([9, 1, 2, 3], 1), (3, [1, 2, 3], [(2, 1), (3, 2)]))

    def test_all_small_keys(self):
        for keys in small_keys(5):
            for start in range(len(keys)):
                length, row, questions = reference.run_by_keys(keys, start)
                self.assertEqual(run_of(keys, start), (length, row[start:start + length], questions))

    def test_long_rows(self):
        for keys in long_rows():
            for start in (0, 1, 2, 3, len(keys) // 2, len(keys) - 1):
                length, row, questions = reference.run_by_keys(keys, start)
                self.assertEqual(run_of(keys, start), (length, row[start:start + length], questions))

    def test_integers_of_any_size(self):
        self.assertEqual(run_of([HUGE, HUGE - 1, -HUGE], 0)[:2], (3, [2, 1, 0]))

    def test_lists_and_tuples_are_the_same(self):
        self.assertEqual(run_of((3, 1, 2), 0), run_of([3, 1, 2], 0))

    def test_by_keyword(self):
        self.assertEqual(run_of(start=1, keys=[3, 1, 2]), (2, [1, 2], [(2, 1)]))

    def test_returned_values_are_new(self):
        keys = [3, 1, 2]
        _, found, questions = run_of(keys, 0)
        found.clear()
        questions.clear()
        self.assertEqual(run_of(keys, 0), (2, [1, 0], [(1, 0), (2, 1), (1, 2), (2, 0)]))
        self.assertEqual(keys, [3, 1, 2])

    def test_kinds_of_values(self):
        found = run_of([3, 1, 2], 0)
        self.assertEqual([type(found)] + [type(part) for part in found], [tuple, int, list, list])
        self.assertEqual({type(question) for question in found[2]}, {tuple})

    def test_wrong_keys(self):
        for keys in odd_values():
            if not is_keys(keys):
                self.assert_raises(InvalidKeys(wrong_index(keys)), run_of, keys, None)
        self.assert_raises(InvalidKeys(-1), run_of, [0] * 2001, 0)
        self.assert_raises(InvalidKeys(1), run_of, [0, True, None], 9)

    def test_wrong_starts(self):
        for start in odd_values():
            if not (is_int(start) and start in (0, 1, 2)):
                self.assert_raises(InvalidNumber("start"), run_of, [3, 1, 2], start)
            self.assert_raises(InvalidNumber("start"), run_of, [], start)
        self.assert_raises(InvalidNumber("start"), run_of, [3, 1, 2], 3)


class RunLengths(Raising, unittest.TestCase):
    def test_example(self):
        self.assertEqual(run_lengths([1, 2, 2, 0, 5, 4, 4, 1]), [3, 2, 3])

    def test_none_and_one(self):
        self.assertEqual([run_lengths([]), run_lengths(()), run_lengths([4])], [[], [], [1]])

    def test_a_last_run_of_one_item(self):
        self.assertEqual(run_lengths([1, 2, 0]), [2, 1])

    def test_all_small_keys(self):
        for keys in small_keys(6):
            self.assertEqual(run_lengths(keys), self.lengths_one_by_one(keys))

    def test_long_rows(self):
        for keys in long_rows():
            self.assertEqual(run_lengths(keys), self.lengths_one_by_one(keys))
        self.assertEqual(run_lengths([0] * 2000), [2000])
        self.assertEqual(run_lengths([1, 2, 1, 2] * 500), [2] + [2] * 999)

    def lengths_one_by_one(self, keys):
        lengths = []
        while sum(lengths) < len(keys):
            lengths.append(reference.run_by_keys(keys, sum(lengths))[0])
        return lengths

    def test_changes_nothing_and_is_new(self):
        keys = [2, 1, 3, 0]
        found = run_lengths(keys=keys)
        found.clear()
        self.assertEqual((run_lengths(tuple(keys)), keys), ([3, 1], [2, 1, 3, 0]))

    def test_wrong_keys(self):
        for keys in odd_values():
            if not is_keys(keys):
                self.assert_raises(InvalidKeys(wrong_index(keys)), run_lengths, keys)
        self.assert_raises(InvalidKeys(-1), run_lengths, (0,) * 2001)
        self.assert_raises(InvalidKeys(2), run_lengths, [0, 1, "2", None])


class Standing(Raising, unittest.TestCase):
    def test_example(self):
        found = [standing([2, 2, 1, 1], 0, 3), standing([2, 2, 1, 1], 0, 5)]
        self.assertEqual(found, [[1, 0, 2, 3], [2, 3, 0, 1]])

    def test_every_count(self):
        found = [standing([2, 2, 1, 1, 0], 0, count) for count in range(7)]
        as_it_came, turned = [0, 1, 2, 3, 4], [1, 0, 2, 3, 4]
        self.assertEqual(found, [as_it_came] * 3 + [turned] * 3 + [[4, 2, 3, 0, 1]])

    def test_equal_items_are_turned_when_the_fall_goes_on(self):
        rows = [standing([3, 2, 2, 1, 1], 0, count) for count in range(7)]
        self.assertEqual(rows[3], [0, 1, 2, 3, 4])
        self.assertEqual(rows[4:6], [[0, 2, 1, 3, 4]] * 2)
        self.assertEqual(rows[6], [3, 4, 1, 2, 0])

    def test_the_whole_row_is_told(self):
        self.assertEqual(standing([9, 8, 3, 1, 2], 2, 0), [0, 1, 2, 3, 4])
        self.assertEqual(standing([9, 8, 3, 1, 2], 2, 4), [0, 1, 3, 2, 4])

    def test_a_start_at_the_last_place(self):
        self.assertEqual(standing([3, 2, 1], 2, 0), [0, 1, 2])
        self.assertEqual(standing([3], 0, 0), [0])

    def test_all_small_keys(self):
        for keys in small_keys(4):
            for start in range(len(keys)):
                many = len(reference.run_by_keys(keys, start)[2])
                for count in range(many + 1):
                    self.assertEqual(standing(keys, start, count), reference.run_by_keys(keys, start, count)[1])
                self.assert_raises(InvalidNumber("count"), standing, keys, start, many + 1)

    def test_long_rows(self):
        for keys in long_rows():
            many = len(reference.run_by_keys(keys, 1)[2])
            for count in sorted({0, 1, many // 3, many // 2, many - 1, many}):
                self.assertEqual(standing(keys, 1, count), reference.run_by_keys(keys, 1, count)[1])

    def test_by_keyword(self):
        self.assertEqual(standing(count=1, start=1, keys=(1, 3, 2)), [0, 2, 1])

    def test_changes_nothing_and_is_new(self):
        keys = [2, 1]
        standing(keys, 0, 1).clear()
        self.assertEqual((standing(keys, 0, 1), keys), ([1, 0], [2, 1]))

    def test_wrong_keys(self):
        for keys in odd_values():
            if not is_keys(keys):
                self.assert_raises(InvalidKeys(wrong_index(keys)), standing, keys, None, None)
        self.assert_raises(InvalidKeys(-1), standing, [0] * 2001, 0, 0)

    def test_wrong_starts(self):
        for start in odd_values():
            if not (is_int(start) and start in (0, 1, 2)):
                self.assert_raises(InvalidNumber("start"), standing, [3, 1, 2], start, None)
            self.assert_raises(InvalidNumber("start"), standing, [], start, 0)

    def test_wrong_counts(self):
        for count in odd_values():
            if not (is_int(count) and 0 <= count <= 4):
                self.assert_raises(InvalidNumber("count"), standing, [3, 1, 2], 0, count)


class ToldRun(Raising, unittest.TestCase):
    def test_example(self):
        self.assertEqual(told_run(3, [True]), (None, [0, 1, 2], [(1, 0), (2, 1)]))

    def test_one_item(self):
        self.assertEqual(told_run(1, []), (1, [0], []))
        self.assert_raises(Mismatch("answers"), told_run, 1, [True])

    def test_no_answers(self):
        self.assertEqual(told_run(2, ()), (None, [0, 1], [(1, 0)]))

    def test_just_enough(self):
        self.assertEqual(told_run(2, [True]), (2, [1, 0], [(1, 0)]))
        self.assertEqual(told_run(3, [False, False]), (3, [0, 1, 2], [(1, 0), (2, 1)]))

    def test_one_too_many(self):
        self.assert_raises(Mismatch("answers"), told_run, 2, [True, True])
        self.assert_raises(Mismatch("answers"), told_run, 3, (False, False, True))

    def test_all_of_one_kind(self):
        rows = [told_run(5, [False] * count)[1:] for count in range(5)]
        questions = [(1, 0), (2, 1), (3, 2), (4, 3)]
        self.assertEqual(rows, [([0, 1, 2, 3, 4], questions[:count + 1]) for count in range(5)])
        rows = [told_run(5, [True] * count) for count in (3, 4)]
        self.assertEqual(rows, [(None, [0, 1, 2, 3, 4], questions), (5, [4, 3, 2, 1, 0], questions)])

    def test_equal_items_wait_to_be_turned(self):
        questions = [(1, 0), (2, 1), (1, 2), (3, 2), (2, 3), (4, 3)]
        found = [told_run(5, [True, False, False, False, False][:count]) for count in range(6)]
        self.assertEqual(found, [(None, [0, 1, 2, 3, 4], questions[:count + 1]) for count in range(6)])
        self.assertEqual(told_run(5, [True, False, False, False, False, True]), (5, [4, 1, 2, 3, 0], questions))

    def test_answers_that_these_keys_would_not_give(self):
        # Every row of answers that a run takes to its end is given by some
        # keys; what can be wrong with one is only that it is too long.
        for many in range(1, 6):
            rows = itertools.product(range(many), repeat=many)
            given = {tuple(honest(keys, question) for question in run_of(keys, 0)[2]) for keys in rows}
            for count in range(2 * many):
                for answers in itertools.product((False, True), repeat=count):
                    if any(answers[:most] in given for most in range(count)):
                        self.assert_raises(Mismatch("answers"), told_run, many, answers)
                    else:
                        self.assertEqual(told_run(many, answers)[0] is None, answers not in given)

    def test_long_answers(self):
        state = 1
        for many in (7, 40, 63, 64, 300, 2000):
            for rarity in (1, 2, 5, 50):
                answers = []
                for _ in range(2 * many):
                    state = state * 1103515245 % 2 ** 31 + 12345
                    answers.append((state // 65536 % (rarity + 1) == 0) != (many % 2 == 0 and rarity > 2))
                length, row, questions = reference.run_by_answers(many, answers)
                self.assertEqual(told_run(many, answers[:len(questions)]), (length, row, questions))

    def test_all_answers(self):
        for many in range(1, 7):
            for answers, found in told_runs(many):
                length, row, questions = reference.run_by_answers(many, answers)
                self.assertEqual(found[:2], (length, row))
                self.assertEqual(found[2][:len(answers)], questions)
                self.assertEqual(len(found[2]), len(answers) + (length is None))
                if length is None:
                    self.assertEqual(told_run(many, answers + [True])[2][:len(found[2])], found[2])
                else:
                    self.assert_raises(Mismatch("answers"), told_run, many, answers + [False])

    def test_honest_answers_lead_to_the_run(self):
        for keys in small_keys(5):
            if keys:
                length, found, questions = run_of(keys, 0)
                told = told_run(len(keys), [honest(keys, question) for question in questions])
                self.assertEqual((told[0], told[1][:length], told[2]), (length, found, questions))

    def test_most_items(self):
        self.assertEqual(told_run(2000, [False] * 1999)[:2], (2000, list(range(2000))))
        self.assertEqual(told_run(2000, [True] * 1999)[:2], (2000, list(range(1999, -1, -1))))
        self.assertIsNone(told_run(2000, [True] * 1998)[0])
        self.assert_raises(Mismatch("answers"), told_run, 2000, [True] * 2000)
        self.assert_raises(InvalidNumber("many"), told_run, 2001, [])
        self.assert_raises(InvalidNumber("many"), told_run, 0, [])

    def test_by_keyword(self):
        self.assertEqual(told_run(answers=(True,), many=2), (2, [1, 0], [(1, 0)]))

    def test_changes_nothing_and_is_new(self):
        answers = [True]
        _, row, questions = told_run(3, answers)
        row.clear()
        questions.clear()
        self.assertEqual(told_run(3, tuple(answers)), (None, [0, 1, 2], [(1, 0), (2, 1)]))
        self.assertEqual(answers, [True])

    def test_wrong_many(self):
        for many in odd_values():
            if not (is_int(many) and 1 <= many <= 2000):
                self.assert_raises(InvalidNumber("many"), told_run, many, None)

    def test_wrong_answers(self):
        for answers in odd_values():
            if not is_answers(answers):
                index = -1
                if type(answers) in (list, tuple):
                    index = first_index(answers, lambda answer: type(answer) is not bool)
                self.assert_raises(InvalidAnswers(index), told_run, 3, answers)

    def test_wrong_entries(self):
        for entry in odd_values():
            if type(entry) is not bool:
                self.assert_raises(InvalidAnswers(1), told_run, 5, [True, entry, None])
        # Wrong entries are told ahead of answers that nothing asks for.
        self.assert_raises(InvalidAnswers(2), told_run, 1, [True, True, 0])


class Facts(unittest.TestCase):
    def test_a_run_stands_in_its_stable_order(self):
        for keys in small_keys(5):
            for start in range(len(keys)):
                length, found, _ = run_of(keys, start)
                stable = stable_order(keys[start:start + length])
                self.assertEqual(found, [start + item for item in stable])
                if start + length < len(keys):
                    self.assertLess(keys[start + length], keys[found[-1]])

    def test_how_many_questions_tell_the_length(self):
        for keys in small_keys(5):
            for start in range(len(keys)):
                length, _, questions = run_of(keys, start)
                part = keys[start:]
                if list(part) == sorted(part):
                    self.assertEqual(len(questions), length - 1)
                elif part[0] < part[length - 1] and list(part[:length]) == sorted(part[:length]):
                    self.assertEqual(len(questions), length + 1)

    def test_any_answers(self):
        for many in range(1, 7):
            for _, (length, row, questions) in told_runs(many):
                self.assertEqual(sorted(row), list(range(many)))
                self.assertLessEqual(len(questions), max(2 * many - 2, 0))
                if length is not None:
                    self.assertGreaterEqual(length, min(many, 2))

    def test_items_outside_the_stretch_do_not_move(self):
        for keys in small_keys(5):
            for start in range(len(keys)):
                length, _, questions = run_of(keys, start)
                for count in range(len(questions) + 1):
                    row = standing(keys, start, count)
                    self.assertEqual(row[:start], list(range(start)))
                    self.assertEqual(sorted(row[start:]), list(range(start, len(keys))))
                self.assertEqual(row[start + length:], list(range(start + length, len(keys))))

    def test_the_answers_alone_decide(self):
        for keys in small_keys(4):
            other = [3 * key - HUGE for key in keys]
            for start in range(len(keys)):
                self.assertEqual(run_of(other, start), run_of(keys, start))


class Failed(Exception):
    pass


@unittest.skipUnless(
    sys.implementation.name == "cpython" and sys.version_info[:2] == (3, 13),
    "list.sort asks so in CPython 3.13",
)
class ListSort(unittest.TestCase):
    """Up to 63 items list.sort begins with the run at place 0, and places the rest."""

    def sort(self, many, answer, most):
        asked = []

        def compare(one, other):
            if len(asked) == most:
                raise Failed
            asked.append((one, other))
            return -1 if answer(len(asked) - 1, one, other) else 1

        row = list(range(many))
        try:
            row.sort(key=functools.cmp_to_key(compare))
        except Failed:
            pass
        return row, asked

    def test_honest_answers(self):
        for keys in small_keys(5):
            if keys:
                _, _, questions = run_of(keys, 0)
                for count in range(len(questions)):
                    row, asked = self.sort(len(keys), lambda at, one, other: keys[one] < keys[other], count)
                    self.assertEqual((row, asked), (standing(keys, 0, count), questions[:count]))

    def test_any_answers(self):
        for many in range(1, 7):
            for answers, (length, row, questions) in told_runs(many):
                if length is None:
                    found = self.sort(many, lambda at, one, other: answers[at], len(answers))
                    self.assertEqual(found, (row, questions[:-1]))


if __name__ == "__main__":
    unittest.main()
