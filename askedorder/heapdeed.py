"""How heaps are kept, one question after another."""

DEEDS = ("heapify", "push", "pop", "replace", "pushpop")

WEIGHING = 1
SINKING = 2
RISING = 3


class HeapDeed:
    """Does a deed with a list of items, `new` being the number of the new item.

    `waiting` is the question that waits for its answer, None at the end;
    `given` is the item that the deed gives, None if it gives nothing. The row
    is not copied but changed itself, so it always stands as it would if the
    question that waits raised an error.
    """

    def __init__(self, deed, row, new):
        self.row = row
        self.new = new
        self.given = None
        self.waiting = None
        # The places from which sinks are still to begin, the next one last.
        self.tops = []
        self.top = 0
        self.place = 0
        self.phase = SINKING
        if deed == "heapify":
            self.tops = list(range(len(row) // 2))
            self._begin_next_sink()
        elif deed == "push":
            row.append(new)
            self.place = len(row) - 1
            self._rise()
        elif deed == "pop":
            self._pop()
        elif deed == "replace":
            self._replace_first(new)
        else:
            self._weigh()

    def take(self, is_less):
        """Takes the answer to the question that waits."""
        self.waiting = None
        if self.phase == WEIGHING:
            self._take_weight(is_less)
        elif self.phase == SINKING:
            self._change_places(2 * self.place + 1 if is_less else 2 * self.place + 2)
            self._sink()
        elif is_less:
            self._change_places(self._parent())
            self._rise()
        else:
            self._begin_next_sink()

    def _pop(self):
        last = self.row.pop()
        if self.row:
            self._replace_first(last)
        else:
            self.given = last

    def _replace_first(self, item):
        self.given = self.row[0]
        self.row[0] = item
        self.tops = [0]
        self._begin_next_sink()

    def _weigh(self):
        if self.row:
            self.phase = WEIGHING
            self.waiting = (self.row[0], self.new)
        else:
            self.given = self.new

    def _take_weight(self, is_less):
        if is_less:
            self._replace_first(self.new)
        else:
            self.given = self.new

    def _begin_next_sink(self):
        if self.tops:
            self.top = self.place = self.tops.pop()
            self._sink()

    def _sink(self):
        """Goes on sinking to the next question, which is one of the rise if no two children are left."""
        self.phase = SINKING
        left = 2 * self.place + 1
        if left + 1 < len(self.row):
            self.waiting = (self.row[left], self.row[left + 1])
            return
        if left < len(self.row):
            self._change_places(left)
        self._rise()

    def _rise(self):
        self.phase = RISING
        if self.place > self.top:
            self.waiting = (self.row[self.place], self.row[self._parent()])
        else:
            self._begin_next_sink()

    def _parent(self):
        return (self.place - 1) // 2

    def _change_places(self, other):
        self.row[self.place], self.row[other] = self.row[other], self.row[self.place]
        self.place = other
