"""How a list is sorted, one question after another."""

from askedorder.joiner import Joiner
from askedorder.piecestack import PieceStack
from askedorder.placer import Placer
from askedorder.placing import least_length
from askedorder.runfinder import RunFinder

FIRST_PATIENCE = 7


class ListSort:
    """Sorts so many items; `turned` tells whether it is a sort with `reverse`.

    `waiting` is the question that waits for its answer, None at the end, and
    `work` what it belongs to: ("run", start), ("place", start, length),
    ("join", start, first, second) or ("end",). `log` has all questions that
    were answered, as tuples (question, answer). `steps` has the pieces and
    the joins that have come to their end: ("piece", start, found, length,
    count) and ("join", start, first, second, patience, count).
    """

    def __init__(self, many, turned):
        self.many = many
        self.turned = turned
        self.row = list(range(many))
        if turned:
            self.row.reverse()
        self.least = least_length(many)
        self.stack = PieceStack(many)
        self.patience_between = FIRST_PATIENCE
        # The piece that comes: its place, the length of its run, its own
        # length, and the level of the border below it.
        self.start = 0
        self.found = 0
        self.length = 0
        self.border = None
        self.machine = None
        self.work = ("end",)
        self.waiting = None
        self.log = []
        self.steps = []
        # How everything stood when each part of the work began: what is done
        # since then can be done anew, by the answers in the log.
        self.marks = []
        if many > 1:
            self._begin(("run", 0))

    def take(self, is_less):
        """Takes the answer to the question that waits."""
        self.log.append((self.waiting, is_less))
        self.machine.take(is_less)
        while self.machine is not None and self.machine.waiting is None:
            self._end_work()
        self.waiting = None if self.machine is None else self.machine.waiting

    def undo(self):
        """Takes the last answer back."""
        self.log.pop()
        while self.marks[-1][0] > len(self.log):
            self.marks.pop()
        self._go_on_from_mark()

    def copied(self):
        """Returns a sort that stands as this one does."""
        other = ListSort(self.many, self.turned)
        if self.marks:
            other.log = list(self.log)
            other.steps = list(self.steps)
            other.marks = list(self.marks)
            other._go_on_from_mark()
        return other

    def order_now(self):
        """Returns the items as the list would show them if the question that waits raised an error."""
        row = list(self.row)
        if self._is_joining():
            _, start, first, second = self.work
            row[start:start + first + second] = self.machine.order_now()
        return row[::-1] if self.turned else row

    def patience_kept(self):
        """Returns the patience at this moment; outside of joins the one with which the next join begins."""
        return self.machine.patience_now if self._is_joining() else self.patience_between

    def _is_joining(self):
        return self.work[0] == "join"

    def _begin(self, work):
        self.work = work
        start = work[1]
        if work[0] == "run":
            self.machine = RunFinder(self.row, start, self.many)
        elif work[0] == "place":
            self.machine = Placer(self.row, start, start + work[2], self.found)
        else:
            middle = start + work[2]
            self.machine = Joiner(self.row[start:middle], self.row[middle:middle + work[3]], self.patience_between)
        self.waiting = self.machine.waiting
        if self.waiting is not None:
            self._set_mark()

    def _set_mark(self):
        coming = (self.start, self.found, self.length, self.border)
        piled = list(self.stack.piled)
        self.marks.append((len(self.log), list(self.row), piled, self.patience_between, coming, self.work))

    def _go_on_from_mark(self):
        """Goes back to the last mark, and on from there by the answers behind it."""
        count, row, piled, self.patience_between, coming, work = self.marks.pop()
        self.row = list(row)
        self.stack.piled = list(piled)
        self.start, self.found, self.length, self.border = coming
        answers = [answer for _, answer in self.log[count:]]
        del self.log[count:]
        while self.steps and self.steps[-1][-1] > count:
            self.steps.pop()
        self._begin(work)
        for answer in answers:
            self.take(answer)

    def _end_work(self):
        if self.work[0] == "run":
            self._end_run()
        elif self.work[0] == "place":
            self._end_piece()
        else:
            self._end_join()

    def _end_run(self):
        self.found = self.machine.length
        self.length = max(self.found, min(self.least, self.many - self.start))
        if self.found < self.length:
            self._begin(("place", self.start, self.length))
        else:
            self._end_piece()

    def _end_piece(self):
        self.steps.append(("piece", self.start, self.found, self.length, len(self.log)))
        self.border = self.stack.border_to(self.length) if self.stack.piled else None
        self._make_room()

    def _make_room(self):
        if self.border is not None and self.stack.has_to_join(self.border):
            self._join_at(len(self.stack.piled) - 2)
        else:
            self.stack.put(self.start, self.length, self.border)
            self.start += self.length
            self._go_to_next()

    def _go_to_next(self):
        if self.start < self.many:
            self._begin(("run", self.start))
        elif len(self.stack.piled) > 1:
            self._join_at(self.stack.next_to_join())
        else:
            self.work = ("end",)
            self.machine = None

    def _join_at(self, place):
        start, first, second = self.stack.join_at(place)
        self._begin(("join", start, first, second))

    def _end_join(self):
        _, start, first, second = self.work
        self.row[start:start + first + second] = self.machine.order_now()
        self.patience_between = self.machine.patience_now
        self.steps.append(("join", start, first, second, self.patience_between, len(self.log)))
        # As long as a piece comes, it is the one for which joins make room.
        if self.start < self.many:
            self._make_room()
        else:
            self._go_to_next()
