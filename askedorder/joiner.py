"""How two sorted stretches are joined, one question after another."""

from askedorder.leaper import Leaper

FIRST_LEAP = 1
LAST_LEAP = 2
ONE_BY_ONE = 3
LEAP_IN_FIRST = 4
LEAP_IN_SECOND = 5

LONG_LEAP = 7


class Joiner:
    """Joins two stretches that stand side by side, each told as a list of its items.

    `waiting` is the question that waits for its answer, None at the end;
    `patience_now` is the patience at this moment. What is left of A are the
    items of first from `low_first` to ahead of `high_first`, what is left of B
    those of second likewise. `forward` is None until the join has a direction;
    `aside` has the items that are set aside then, and `gone` those that have
    gone, in the order in which they went.
    """

    def __init__(self, first, second, patience):
        self.first = list(first)
        self.second = list(second)
        self.patience_now = patience
        self.low_first = 0
        self.high_first = len(self.first)
        self.low_second = 0
        self.high_second = len(self.second)
        self.forward = None
        self.aside = []
        # The places of A and B; B has none until the last leap has found some.
        self.low = 0
        self.high = len(self.first)
        self.gone = []
        self.went_second = False
        self.in_a_row = 0
        self.gone_first = 0
        self.sought = self.second[0]
        self.phase = FIRST_LEAP
        self.leaper = Leaper(len(self.first), 0)
        self.waiting = None
        self._ask_for_leap()

    def take(self, is_less):
        """Takes the answer to the question that waits."""
        if self.phase == ONE_BY_ONE:
            self._take_one(is_less)
            return
        self.leaper.take(not is_less if self._leaps_in_first() else is_less)
        if self.leaper.waiting is not None:
            self._ask_for_leap()
        elif self.phase == FIRST_LEAP:
            self._end_first_leap(self.leaper.found)
        elif self.phase == LAST_LEAP:
            self._end_last_leap(self.leaper.found)
        elif self.phase == LEAP_IN_FIRST:
            self._end_leap_in_first(self.leaper.found)
        else:
            self._end_leap_in_second(self.leaper.found)

    def order_now(self):
        """Returns all items as they stand at the end, or if the question that waits raises an error."""
        if self.forward is None:
            return self.first + self.second
        left_first = self.first[self.low_first:self.high_first]
        left_second = self.second[self.low_second:self.high_second]
        # Behind the end, one of both is empty, or the one item that is left of
        # what was set aside goes past all that is left of the other.
        left = left_second + left_first if self.waiting is None else left_first + left_second
        joined = self.gone + left if self.forward else left + self.gone[::-1]
        return self.first[:self.low] + joined + self.second[self.high - len(self.first):]

    def _leaps_in_first(self):
        return self.phase in (FIRST_LEAP, LEAP_IN_FIRST)

    def _ask_for_leap(self):
        if self._leaps_in_first():
            self.waiting = (self.sought, self.first[self.low_first + self.leaper.waiting])
        else:
            self.waiting = (self.second[self.low_second + self.leaper.waiting], self.sought)

    def _end_first_leap(self, found):
        self.low = self.low_first = found
        if found == len(self.first):
            self.waiting = None
            return
        self.phase = LAST_LEAP
        self.sought = self.first[-1]
        self.leaper = Leaper(len(self.second), len(self.second) - 1)
        self._ask_for_leap()

    def _end_last_leap(self, found):
        self.high_second = found
        self.high = len(self.first) + found
        if found == 0:
            self.waiting = None
            return
        self.forward = self._many_first() <= self._many_second()
        if self.forward:
            self.aside = self.first[self.low_first:]
            self._go_second(1)
        else:
            self.aside = self.second[:self.high_second]
            self._go_first(1)
        self._begin_one_by_one()

    def _begin_one_by_one(self):
        self.phase = ONE_BY_ONE
        self.in_a_row = 0
        self._ask_about_next()

    def _ask_about_next(self):
        if self._is_over():
            self.waiting = None
        else:
            self.waiting = (self._next_second(), self._next_first())

    def _take_one(self, is_less):
        # The lesser one goes forward, the greater one backward.
        goes_second = is_less == self.forward
        if goes_second:
            self._go_second(1)
        else:
            self._go_first(1)
        if goes_second != self.went_second:
            self.in_a_row = 0
        self.went_second = goes_second
        self.in_a_row += 1
        if self.in_a_row >= self.patience_now and not self._is_over():
            self._begin_round()
        else:
            self._ask_about_next()

    def _begin_round(self):
        self.phase = LEAP_IN_FIRST
        self.sought = self._next_second()
        many = self._many_first()
        self.leaper = Leaper(many, 0 if self.forward else many - 1)
        self._ask_for_leap()

    def _end_leap_in_first(self, found):
        self.gone_first = found if self.forward else self._many_first() - found
        self._go_first(self.gone_first)
        if not self._is_over():
            self._go_second(1)
        if self._is_over():
            self.waiting = None
            return
        self.phase = LEAP_IN_SECOND
        self.sought = self._next_first()
        many = self._many_second()
        self.leaper = Leaper(many, 0 if self.forward else many - 1)
        self._ask_for_leap()

    def _end_leap_in_second(self, found):
        gone_second = found if self.forward else self._many_second() - found
        self._go_second(gone_second)
        if not self._is_over():
            self._go_first(1)
        if self._is_over():
            self.waiting = None
        elif self.gone_first >= LONG_LEAP or gone_second >= LONG_LEAP:
            self.patience_now = max(self.patience_now - 1, 1)
            self._begin_round()
        else:
            self.patience_now += 1
            self._begin_one_by_one()

    def _is_over(self):
        # This holds where a step of the document says END or LAST. It says so
        # only behind items that went; but it can be asked anywhere, as the
        # join goes on only while this does not hold.
        if self.forward:
            return self._many_second() == 0 or self._many_first() <= 1
        return self._many_first() == 0 or self._many_second() <= 1

    def _many_first(self):
        return self.high_first - self.low_first

    def _many_second(self):
        return self.high_second - self.low_second

    def _next_first(self):
        return self.first[self.low_first if self.forward else self.high_first - 1]

    def _next_second(self):
        return self.second[self.low_second if self.forward else self.high_second - 1]

    def _go_first(self, many):
        if self.forward:
            self.gone.extend(self.first[self.low_first:self.low_first + many])
            self.low_first += many
        else:
            self.gone.extend(self.first[self.high_first - many:self.high_first][::-1])
            self.high_first -= many

    def _go_second(self, many):
        if self.forward:
            self.gone.extend(self.second[self.low_second:self.low_second + many])
            self.low_second += many
        else:
            self.gone.extend(self.second[self.high_second - many:self.high_second][::-1])
            self.high_second -= many
