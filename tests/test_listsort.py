"""The sort, and the joins in it, against list.sort itself.

Up to version 3.12 list.sort finds its runs in another way, told here by
OldRunFinder; all else is asked as in 3.13 from 3.11 on.
"""

import functools
import random
import sys
import unittest
from unittest import mock

from askedorder import listsort
from askedorder.joins import joined, standing_in
from askedorder.listsort import ListSort
from askedorder.runfinder import RunFinder


class Failed(Exception):
    pass


class OldRunFinder:
    """A run as CPython 3.11 and 3.12 find it: it rises weakly, or falls strictly and is turned."""

    def __init__(self, row, start, end):
        self.row, self.start, self.end = row, start, end
        self.place = start + 1
        self.falls = None
        self.length = None
        self.ask()

    def take(self, is_less):
        if self.falls is None:
            self.falls = is_less
        elif is_less != self.falls:
            self.end = self.place
        self.place += self.place < self.end
        self.ask()

    def ask(self):
        if self.place < self.end:
            self.waiting = (self.row[self.place], self.row[self.place - 1])
            return
        self.waiting = None
        self.length = self.end - self.start
        if self.falls:
            self.row[self.start:self.end] = self.row[self.start:self.end][::-1]


def sort_by_package(many, answer, most=None, reverse=False):
    """What the list shows, and the questions, behind at most so many of them."""
    with mock.patch.object(listsort, "RunFinder", RunFinder if sys.version_info >= (3, 13) else OldRunFinder):
        sort = ListSort(many, reverse)
        while sort.waiting is not None and len(sort.log) != most:
            sort.take(answer(len(sort.log), *sort.waiting))
    return sort.order_now(), [question for question, _ in sort.log]


def sort_by_python(many, answer, most=None, reverse=False):
    asked = []

    def compare(one, other):
        if len(asked) == most:
            raise Failed
        asked.append((one, other))
        return -1 if answer(len(asked) - 1, one, other) else 1

    row = list(range(many))
    try:
        row.sort(key=functools.cmp_to_key(compare), reverse=reverse)
    except Failed:
        pass
    return row, asked


def rows_of_keys(numbers):
    """Rows of keys of several kinds, up to some thousands."""
    for many in [*range(12), 63, 64, 65, 200, 700, 2500]:
        yield [numbers.randrange(many + 1) for _ in range(many)]
        yield [numbers.randrange(3) for _ in range(many)]
        yield [place * 37 % 101 + place // 50 for place in range(many)]
        yield sorted(numbers.randrange(many + 1) for _ in range(many - many // 9)) + [0] * (many // 9)
        for longest in (30, 300):
            keys = []
            while len(keys) < many:
                base, step = numbers.randrange(1000), numbers.choice([-1, 0, 1, 1, 2])
                keys += [base + step * place // 2 for place in range(numbers.randrange(1, longest))]
            yield keys[:many]


@unittest.skipUnless(sys.implementation.name == "cpython" and sys.version_info >= (3, 11), "list.sort asks so in CPython")
class AgainstListSort(unittest.TestCase):
    def check(self, many, answer, numbers):
        for reverse in (False, True):
            row, asked = sort_by_python(many, answer, None, reverse)
            self.assertEqual(sort_by_package(many, answer, None, reverse), (row, asked))
            for _ in range(6):
                most = numbers.randrange(len(asked) + 1)
                expected = sort_by_python(many, answer, most, reverse)
                self.assertEqual(sort_by_package(many, answer, most, reverse), expected)

    def test_honest_answers(self):
        numbers = random.Random(21)
        for keys in rows_of_keys(numbers):
            self.check(len(keys), lambda at, one, other: keys[one] < keys[other], numbers)

    def test_answers_that_now_and_then_lie(self):
        numbers = random.Random(22)
        for keys in rows_of_keys(numbers):
            lies = [numbers.random() < 0.02 for _ in range(40 * len(keys))]
            self.check(len(keys), lambda at, one, other: (keys[one] < keys[other]) != lies[at], numbers)

    def test_any_answers(self):
        numbers = random.Random(23)
        for many in (2, 5, 20, 64, 130, 500, 2000):
            for share in (0.01, 0.1, 0.5, 0.9, 0.99):
                answers = [numbers.random() < share for _ in range(40 * many)]
                self.check(many, lambda at, one, other: answers[at], numbers)

    def test_a_join_of_two_runs(self):
        numbers = random.Random(24)
        for many, more in [(70, 64), (64, 200), (500, 90), (700, 701), (1500, 1400)]:
            for spread in (2, 50, 10 ** 6):
                first = sorted(numbers.randrange(spread) for _ in range(many))
                second = sorted(numbers.randrange(spread) for _ in range(more))
                second[0], first[-1] = -1, spread
                keys = first + second
                row, asked = sort_by_python(many + more, lambda at, one, other: keys[one] < keys[other])
                order, questions, _, _, _ = joined(first, second)
                self.assertEqual((order, questions), (row, asked[-len(questions):]))
                for _ in range(10):
                    count = numbers.randrange(len(questions))
                    most = len(asked) - len(questions) + count
                    row, _ = sort_by_python(many + more, lambda at, one, other: keys[one] < keys[other], most)
                    self.assertEqual(standing_in(first, second, 7, count)[0], row)


if __name__ == "__main__":
    unittest.main()
