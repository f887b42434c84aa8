"""The sort of a row that is told by stretches, without going through its items."""

from askedorder.joincounter import JoinCounter
from askedorder.levels import merges
from askedorder.listsort import FIRST_PATIENCE
from askedorder.placing import least_length, placed
from askedorder.stretches import cut_at, interleaved, moves_of, size_of, turned_about, value_at, values_of


class StretchRun:
    """Finds the run at the beginning of a row.

    `place` is its length, `count` the number of its questions; `fallen` is how
    many of its items, from the first one on, have fallen and are turned.
    """

    def __init__(self, stretches):
        self.stretches = stretches
        # How the values go on behind the place, the next move last.
        self.moves = moves_of(stretches)[::-1]
        self.place = 1
        self.count = 0
        self.fallen = 0
        self._find()

    def _find(self):
        has_risen = self._pass_not_falling()
        if not self.moves:
            return
        self.count += 1
        if self.place > 1:
            # Asked is whether the items up to here are all equal.
            self.count += 1
            if has_risen:
                return
        self._pass_one()
        self._pass_not_rising()
        self.fallen = self.place
        if self.moves:
            # Two questions found that an item is greater, the third one asks
            # about it and the item that stands last once the run is turned.
            self.count += 3
            if value_at(self.stretches, self.place) >= self.stretches[0][0]:
                self._rise_on()

    def _rise_on(self):
        self._pass_one()
        self._pass_not_falling()
        if self.moves:
            self.count += 1

    def _pass_one(self):
        move, many = self.moves.pop()
        self.place += 1
        # A move of no items that is left is passed with those that follow.
        self.moves.append((move, many - 1))

    def _pass_not_falling(self):
        """Passes all items that do not fall; returns whether one of them has risen."""
        has_risen = False
        while self.moves and self.moves[-1][0] >= 0:
            move, many = self.moves.pop()
            self.place += many
            self.count += many
            has_risen = has_risen or move == 1
        return has_risen

    def _pass_not_rising(self):
        while self.moves and self.moves[-1][0] <= 0:
            move, many = self.moves.pop()
            self.place += many
            # Of an equal item it is also asked whether it is greater.
            self.count += many if move == -1 else 2 * many


class BlockSort:
    """The whole sort of a row.

    `found_pieces` has a tuple (found, length, finding, placing) for each piece as
    they come, `done_joins` a tuple (start, first, second, count, patience) for each
    join.
    """

    def __init__(self, stretches):
        self.whole = size_of(stretches)
        self.least = least_length(self.whole)
        self.left = stretches
        self.found_pieces = []
        self.done_joins = []
        # The sorted rows of the pieces, by the places where they start.
        self.rows = {}
        if self.whole > 1:
            self._find_pieces()
            self._join_pieces()

    def count_all(self):
        """Returns the number of questions of the whole sort."""
        in_pieces = sum([finding + placing for _, _, finding, placing in self.found_pieces])
        return in_pieces + sum([asked for _, _, _, asked, _ in self.done_joins])

    def _find_pieces(self):
        start = 0
        while self.left:
            run = StretchRun(self.left)
            found, self.left = cut_at(self.left, run.place)
            falling, rising = cut_at(found, run.fallen)
            row = turned_about(falling) + rising
            length = max(run.place, min(self.least, self.whole - start))
            placing = 0
            if run.place < length:
                row, placing = self._placed_with_next(row, length)
            self.rows[start] = row
            self.found_pieces.append((run.place, length, run.count, placing))
            start += length

    def _placed_with_next(self, row, length):
        """Returns (row, count): a short run, made longer by placing the items behind it, and its questions."""
        ready = size_of(row)
        more, self.left = cut_at(self.left, length - ready)
        found = values_of(row) + values_of(more)
        order, questions = placed(found, ready)
        return [(found[item], 1, 0) for item in order], len(questions)

    def _join_pieces(self):
        # Which pieces are joined hangs on their lengths alone.
        amid, at_end = merges([length for _, length, _, _ in self.found_pieces])
        patience = FIRST_PATIENCE
        for start, first, second in amid + at_end:
            self.rows[start], lengths = interleaved(self.rows[start], self.rows.pop(start + first))
            counter = JoinCounter(lengths, patience)
            counter.go_through()
            patience = counter.patience_now
            self.done_joins.append((start, first, second, counter.count, patience))
