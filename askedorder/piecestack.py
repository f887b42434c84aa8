"""The stack of pieces: which pieces are joined, and when."""


def level_between(start, first, second, whole):
    """Returns the level of the border between two pieces of a row."""
    middle = 2 * start + first
    distance = first + second
    # With so many binary figures both middles surely are unlike: their
    # distance, as a part of 2 * whole, is at least one of the last figure.
    figures = (2 * whole).bit_length() - distance.bit_length() + 1
    one = (middle << figures) // (2 * whole)
    other = ((middle + distance) << figures) // (2 * whole)
    return figures - (one ^ other).bit_length() + 1


class PieceStack:
    """The pieces on the stack of a row of a whole length.

    `piled` has them, the lowest one first, as tuples (start, length, level):
    the level of the border above the piece, None for the uppermost one.
    """

    def __init__(self, whole):
        self.whole = whole
        self.piled = []

    def border_to(self, length):
        """Returns the level of the border between the uppermost piece and a new one behind it."""
        start, first, _ = self.piled[-1]
        return level_between(start, first, length, self.whole)

    def has_to_join(self, border):
        """Returns whether the two uppermost pieces are joined ahead of a piece behind such a border."""
        return len(self.piled) > 1 and self.piled[-2][2] > border

    def put(self, start, length, border):
        """Puts a piece on the stack; `border` is the level below it, None if it is the lowest one."""
        if self.piled:
            below, its_length, _ = self.piled.pop()
            self.piled.append((below, its_length, border))
        self.piled.append((start, length, None))

    def next_to_join(self):
        """Returns the place of the first one of the two pieces that are joined next, behind the last piece."""
        top = len(self.piled) - 1
        if top >= 2 and self.piled[top - 2][1] < self.piled[top][1]:
            return top - 2
        return top - 1

    def join_at(self, place):
        """Makes one piece of two; returns the join as a tuple (start, first, second)."""
        start, first, _ = self.piled[place]
        _, second, border = self.piled[place + 1]
        self.piled[place:place + 2] = [(start, first + second, border)]
        return start, first, second
