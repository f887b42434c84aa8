"""How a stretch of a row is sorted by placing, one question after another."""


class Placer:
    """Sorts the stretch of a row from `start` to ahead of `end` by placing.

    The first `ready` items of the stretch are taken to be sorted. `waiting` is
    the question that waits for its answer, None at the end. The row is not
    copied but changed itself, so it always stands as it would if the question
    that waits raised an error.
    """

    def __init__(self, row, start, end, ready):
        self.row = row
        self.start = start
        self.end = end
        # The first item is in its place even if it is not told to be ready.
        self.place = start + max(ready, 1)
        self.low = start
        self.high = start
        self.middle = start
        self.waiting = None
        self._begin_item()

    def take(self, is_less):
        """Takes the answer to the question that waits."""
        if is_less:
            self.high = self.middle
        else:
            self.low = self.middle + 1
        if self.low < self.high:
            self._ask_about_middle()
        else:
            self._put()

    def _begin_item(self):
        self.waiting = None
        if self.place < self.end:
            self.low = self.start
            self.high = self.place
            self._ask_about_middle()

    def _ask_about_middle(self):
        self.middle = (self.low + self.high) // 2
        self.waiting = (self.row[self.place], self.row[self.middle])

    def _put(self):
        item = self.row[self.place]
        self.row[self.low + 1:self.place + 1] = self.row[self.low:self.place]
        self.row[self.low] = item
        self.place += 1
        self._begin_item()
