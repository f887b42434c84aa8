"""The errors of the package.

Each message is a fixed text, because a value that is not as described may be
one that cannot be shown (an integer with too many digits, for example).
"""


class SortError(ValueError):
    """The error above all errors of the package."""


class InvalidKeys(SortError):
    """Keys are not as described: index of the first wrong entry, or -1."""

    def __init__(self, index):
        SortError.__init__(self, "the keys are not as described")
        self.index = index


class InvalidQuestion(SortError):
    """A value is not a question."""

    def __init__(self, question):
        SortError.__init__(self, "the question is not one of these items")
        self.question = question


class InvalidAnswer(SortError):
    """A value is not an answer to what is asked."""

    def __init__(self, answer):
        SortError.__init__(self, "the answer is none to what is asked")
        self.answer = answer


class InvalidAnswers(SortError):
    """Answers are not as described: index of the first wrong one, or -1."""

    def __init__(self, index):
        SortError.__init__(self, "the answers are not as described")
        self.index = index


class InvalidOrder(SortError):
    """An order is not as described: index of the first wrong entry, or -1."""

    def __init__(self, index):
        SortError.__init__(self, "the order is not as described")
        self.index = index


class InvalidLengths(SortError):
    """Lengths are not as described: index of the first wrong one, or -1."""

    def __init__(self, index):
        SortError.__init__(self, "the lengths are not as described")
        self.index = index


class InvalidBlocks(SortError):
    """Blocks are not as described: index of the first wrong one, or -1."""

    def __init__(self, index):
        SortError.__init__(self, "the blocks are not as described")
        self.index = index


class InvalidNumber(SortError):
    """The argument with this name is not as described."""

    def __init__(self, name):
        SortError.__init__(self, "an argument is not as described")
        self.name = name


class InvalidHeap(SortError):
    """A list is no heap at this place, or has no items (-1)."""

    def __init__(self, index):
        SortError.__init__(self, "the heap is not as described")
        self.index = index


class NothingAsked(SortError):
    """There is nothing to answer, or to take back, behind so many answers."""

    def __init__(self, count):
        SortError.__init__(self, "nothing is asked")
        self.count = count


class NotFinished(SortError):
    """Something has not come to its end, behind so many answers."""

    def __init__(self, count):
        SortError.__init__(self, "the end has not been reached")
        self.count = count


class RowChanged(SortError):
    """A list was changed while it was sorted: so many values are lost."""

    def __init__(self, count):
        SortError.__init__(self, "the list was changed while it was sorted")
        self.count = count


class TooLarge(SortError):
    """Something is larger than this limit."""

    def __init__(self, limit):
        SortError.__init__(self, "the limit is exceeded")
        self.limit = limit


class Mismatch(SortError):
    """The argument with this name does not fit the others."""

    def __init__(self, name):
        SortError.__init__(self, "an argument does not fit the others")
        self.name = name
