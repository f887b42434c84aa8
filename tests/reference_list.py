"""list.sort of CPython 3.13 told once more, after list_sort_impl in listobject.c.

The parts are those of reference.py and reference_sort.py. A sort is asked by a
function, may be stopped, and notes what it does.
"""

from tests.reference import Asker, Stopped, count_run
from tests.reference_sort import Merge, binarysort, compute_minrun, powerloop


class ReferenceSort:
    """A sort of the items 0, 1, .., many - 1 with the answers of a function, stopped behind `most` questions.

    `row` is what the list shows behind it, `pending` the stack of runs, as
    lists [base, length, power], `doing` and `min_gallop` are what they are
    when the sort ends or is stopped.
    """

    def __init__(self, many, answer, most=None, reverse=False):
        self.row = list(range(many))
        self.asker = Asker(answer, most)
        self.pending = []
        self.min_gallop = 7
        self.steps = []
        self.doing = None
        if reverse:
            self.row.reverse()
        try:
            if many > 1:
                self.sort()
            self.doing = ("end",)
        except Stopped:
            pass
        if reverse:
            self.row.reverse()
        self.questions = self.asker.questions
        self.waiting = self.asker.refused

    def sort(self):
        n, low = len(self.row), 0
        minrun = compute_minrun(n)
        while low < n:
            self.doing = ("run", low)
            found = length = count_run(self.row, low, n, self.asker.less)
            if found < minrun:
                length = min(minrun, n - low)
                self.doing = ("place", low, length)
                binarysort(self.row, low, length, found, self.asker.less)
            self.steps.append(("piece", low, found, length, len(self.asker.questions)))
            self.found_new_run(length)
            self.pending.append([low, length, None])
            low += length
        self.merge_force_collapse()

    def found_new_run(self, length):
        if self.pending:
            base, first, _ = self.pending[-1]
            power = powerloop(base, first, length, len(self.row))
            while len(self.pending) > 1 and self.pending[-2][2] > power:
                self.merge_at(len(self.pending) - 2)
            self.pending[-1][2] = power

    def merge_force_collapse(self):
        while len(self.pending) > 1:
            n = len(self.pending) - 2
            if n > 0 and self.pending[n - 1][1] < self.pending[n + 1][1]:
                n -= 1
            self.merge_at(n)

    def merge_at(self, i):
        base, first, _ = self.pending[i]
        _, second, power = self.pending.pop(i + 1)
        self.pending[i] = [base, first + second, power]
        self.doing = ("join", base, first, second)
        part = self.row[base:base + first + second]
        merge = Merge(part, first, second, self.asker.less, self.min_gallop)
        try:
            merge.run()
        finally:
            self.row[base:base + first + second] = part
            self.min_gallop = merge.min_gallop
        self.steps.append(("join", base, first, second, self.min_gallop, len(self.asker.questions)))


def sort_by_keys(keys, reverse=False, most=None):
    """The sort of keys, with honest answers."""
    return ReferenceSort(len(keys), lambda at, one, other: keys[one] < keys[other], most, reverse)


def sort_by_answers(many, answers, reverse=False):
    """The sort of so many items with any answers, stopped behind the last one of them."""
    return ReferenceSort(many, lambda at, one, other: answers[at], len(answers), reverse)
