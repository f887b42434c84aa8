"""How a leap finds a place in a row, one place after another."""

AT_HINT = 1
STEPPING = 2
HALVING = 3


class Leaper:
    """A leap in a row of so many keys, beginning at the hint.

    `waiting` is the place of which it has to be told whether it is low, None
    at the end; `found` is the place that is found, None ahead of the end.
    """

    def __init__(self, many, hint):
        self.many = many
        self.hint = hint
        self.phase = AT_HINT
        self.upward = False
        self.last = 0
        self.step = 1
        self.longest = 0
        self.left = 0
        self.right = 0
        self.waiting = hint
        self.found = None

    def take(self, is_low):
        """Takes whether the place that waits is low."""
        if self.phase == AT_HINT:
            self._begin_stepping(is_low)
        elif self.phase == STEPPING:
            self._take_step(is_low)
        else:
            self._take_half(is_low)

    def _begin_stepping(self, is_low):
        self.phase = STEPPING
        self.upward = is_low
        self.longest = self.many - self.hint if is_low else self.hint + 1
        self._step_or_halve()

    def _take_step(self, is_low):
        if is_low == self.upward:
            self.last = self.step
            self.step = 2 * self.step + 1
            self._step_or_halve()
        else:
            self._begin_halving()

    def _step_or_halve(self):
        if self.step >= self.longest:
            self.step = self.longest
            self._begin_halving()
        elif self.upward:
            self.waiting = self.hint + self.step
        else:
            self.waiting = self.hint - self.step

    def _begin_halving(self):
        self.phase = HALVING
        if self.upward:
            self.left = self.hint + self.last + 1
            self.right = self.hint + self.step
        else:
            self.left = self.hint - self.step + 1
            self.right = self.hint - self.last
        self._halve()

    def _take_half(self, is_low):
        if is_low:
            self.left = self.waiting + 1
        else:
            self.right = self.waiting
        self._halve()

    def _halve(self):
        if self.left < self.right:
            self.waiting = self.left + (self.right - self.left) // 2
        else:
            self.waiting = None
            self.found = self.right


def leap(many, hint, is_low):
    """Returns (found, asked) of a leap, `is_low` being a function that tells of a place whether it is low."""
    leaper = Leaper(many, hint)
    asked = []
    while leaper.waiting is not None:
        asked.append(leaper.waiting)
        leaper.take(is_low(leaper.waiting))
    return leaper.found, asked


def places_of_leap(many, hint, place):
    """Returns the places that are asked if the low ones are those ahead of a place."""
    _, asked = leap(many, hint, lambda at: at < place)
    return asked
