"""How a run is found in a row, one question after another."""

RISING = 1
ALL_EQUAL = 2
FALLING = 3
STILL_EQUAL = 4
RISING_ON = 5


class RunFinder:
    """Finds the run at `start` in the stretch of a row that ends before `end`.

    `waiting` is the question that waits for its answer, None at the end;
    `length` is the length of the run, None ahead of the end. The row is not
    copied but changed itself, so it always stands as it would if the question
    that waits raised an error.
    """

    def __init__(self, row, start, end):
        self.row = row
        self.start = start
        self.end = end
        self.place = start + 1
        self.equal = 0
        self.step = RISING
        self.waiting = None
        self.length = None
        self._ask_about_place()

    def take(self, is_less):
        """Takes the answer to the question that waits."""
        if self.step == RISING:
            self._take_rising(is_less)
        elif self.step == ALL_EQUAL:
            self._take_all_equal(is_less)
        elif self.step == FALLING:
            self._take_falling(is_less)
        elif self.step == STILL_EQUAL:
            self._take_still_equal(is_less)
        else:
            self._take_rising_on(is_less)

    def _take_rising(self, is_less):
        if not is_less:
            self._go_on()
        elif self.place == self.start + 1:
            self._begin_falling()
        else:
            self.step = ALL_EQUAL
            self.waiting = (self.row[self.start], self.row[self.place - 1])

    def _take_all_equal(self, is_less):
        if is_less:
            self._finish()
        else:
            # Equal items ahead of a fall are turned once more with the whole
            # run: turned twice, they stand as they came.
            self._turn(self.start)
            self._begin_falling()

    def _begin_falling(self):
        self.step = FALLING
        self._go_on()

    def _take_falling(self, is_less):
        if is_less:
            self._turn_equal()
            self._go_on()
        else:
            self.step = STILL_EQUAL
            self.waiting = (self.row[self.place - 1], self.row[self.place])

    def _take_still_equal(self, is_less):
        if is_less:
            self._make_rising()
        else:
            self.equal += 1
            self.step = FALLING
            self._go_on()

    def _make_rising(self):
        self._turn_equal()
        self._turn(self.start)
        self.step = RISING_ON
        self._ask_about_place()

    def _take_rising_on(self, is_less):
        if is_less:
            self._finish()
        else:
            self._go_on()

    def _go_on(self):
        self.place += 1
        self._ask_about_place()

    def _ask_about_place(self):
        if self.place < self.end:
            self.waiting = (self.row[self.place], self.row[self.place - 1])
        elif self.step == FALLING:
            self._make_rising()
        else:
            self._finish()

    def _finish(self):
        self.length = self.place - self.start
        self.waiting = None

    def _turn_equal(self):
        # One more than are counted: the first of the equal items was asked
        # about as a lesser one.
        if self.equal > 0:
            self._turn(self.place - self.equal - 1)
            self.equal = 0

    def _turn(self, low):
        self.row[low:self.place] = self.row[low:self.place][::-1]
