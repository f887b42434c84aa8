"""A sort that waits for its answers."""

from askedorder.checks import check_bool, check_number
from askedorder.errors import InvalidAnswer, NothingAsked
from askedorder.listsort import ListSort

MOST_SORTED = 300


class Sorter:
    """A sort of so many items, whose questions are answered from outside."""

    def __init__(self, many, *, reverse=False):
        check_number("many", many, 0, MOST_SORTED)
        check_bool("reverse", reverse)
        self._many = many
        self._turned = reverse
        self._machine = ListSort(many, reverse)

    def wanted(self):
        """Returns the question that waits for its answer, None at the end."""
        return self._machine.waiting

    def reply(self, is_less):
        """Takes the answer to the question that waits."""
        if not isinstance(is_less, bool):
            raise InvalidAnswer(is_less)
        if self._machine.waiting is None:
            raise NothingAsked(len(self._machine.log))
        self._machine.take(is_less)

    def asked(self):
        """Returns the tuples (question, answer) of all answers so far."""
        return list(self._machine.log)

    def order(self):
        """Returns the items as the list would show them if the question that waits raised an error."""
        return self._machine.order_now()

    def patience(self):
        """Returns the patience that is kept at this moment."""
        return self._machine.patience_kept()

    def pieces(self):
        """Returns the pieces on the stack, as tuples (start, length, level)."""
        return list(self._machine.stack.piled)

    def doing(self):
        """Returns what the question that waits belongs to."""
        return self._machine.work

    def undo(self):
        """Takes back the last answer."""
        if not self._machine.log:
            raise NothingAsked(0)
        self._machine.undo()

    def copied(self):
        """Returns a sorter that stands as this one does."""
        other = Sorter(self._many, reverse=self._turned)
        other._machine = self._machine.copied()
        return other
