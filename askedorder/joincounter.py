"""How many questions an honest join asks, told without going through its items."""

from askedorder.joiner import LONG_LEAP
from askedorder.leaper import places_of_leap

FIRST = 0
SECOND = 1


class JoinCounter:
    """Counts the questions of an honest join.

    It is told by lengths: how many items of first stand ahead behind the join,
    how many of second come then, how many of first, and so on. What is left of
    A and B is a row of stretches that are still to go, the next one at the end
    of `stretches`, each as a list [side, length].
    """

    def __init__(self, lengths, patience):
        self.lengths = list(lengths)
        self.patience_now = patience
        self.count = 0
        self.many_aside = 0
        self.forward = True
        self.stretches = []
        self.left = [sum(self.lengths[0::2]), sum(self.lengths[1::2])]

    def go_through(self):
        """Goes through the whole join."""
        many_first, many_second = self.left
        ahead = self.lengths[0]
        self._count_leap(many_first, 0, ahead)
        if ahead == many_first:
            return
        # If the last length is one of second, the items that it tells of are
        # in their places already.
        at_end = self.lengths[-1] if len(self.lengths) % 2 == 0 else 0
        self._count_leap(many_second, many_second - 1, many_second - at_end)
        self.left = [many_first - ahead, many_second - at_end]
        self._set_aside(self.lengths[1:-1] if at_end > 0 else self.lengths[1:])
        self._go(1)
        while not self._is_over():
            self._go_one_by_one()
            if not self._is_over():
                self._go_in_rounds()

    def _set_aside(self, lengths):
        self.forward = self.left[FIRST] <= self.left[SECOND]
        self.many_aside = min(self.left)
        self.stretches = [[(index + 1) % 2, length] for index, length in enumerate(lengths)]
        if self.forward:
            self.stretches.reverse()

    def _go_one_by_one(self):
        """Asks about one item after another, until patience or the join is at its end."""
        in_a_row = 0
        while not self._is_over() and in_a_row < self.patience_now:
            # Neighbouring stretches are of unlike sides, so each one is
            # counted anew; and a join is only over at the end of a stretch.
            in_a_row = min(self._next_length(), self.patience_now)
            self.count += in_a_row
            self._go(in_a_row)

    def _go_in_rounds(self):
        """Goes through rounds of leaps, until they get short or the join is at its end."""
        while True:
            many_first = self._leap_over(FIRST)
            if not self._is_over():
                self._go(1)
            if self._is_over():
                return
            many_second = self._leap_over(SECOND)
            if not self._is_over():
                self._go(1)
            if self._is_over():
                return
            if many_first < LONG_LEAP and many_second < LONG_LEAP:
                self.patience_now += 1
                return
            self.patience_now = max(self.patience_now - 1, 1)

    def _leap_over(self, side):
        """Leaps over the items of a side that go ahead of the next one of the other side."""
        left = self.left[side]
        many = self._next_length() if self._next_side() == side else 0
        if self.forward:
            self._count_leap(left, 0, many)
        else:
            self._count_leap(left, left - 1, left - many)
        if many > 0:
            self._go(many)
        return many

    def _go(self, many):
        side = self._next_side()
        self.left[side] -= many
        self.stretches[-1][1] -= many
        if self._next_length() == 0:
            self.stretches.pop()

    def _is_over(self):
        aside = FIRST if self.forward else SECOND
        return self.left[aside] <= 1 or self.left[1 - aside] == 0

    def _next_side(self):
        return self.stretches[-1][0]

    def _next_length(self):
        return self.stretches[-1][1]

    def _count_leap(self, many, hint, place):
        self.count += len(places_of_leap(many, hint, place))
