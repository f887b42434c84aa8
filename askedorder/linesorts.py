"""The sorts that can be on in a line: by questions, and by keys."""

from askedorder.checks import is_integer
from askedorder.listsort import ListSort
from askedorder.rows import stable_order


class LessSort:
    """A sort of values that asks which of them are less than others."""

    def __init__(self, held, turned):
        self.held = list(held)
        self.turned = turned
        self.is_touched = False
        self.machine = ListSort(len(held), turned)

    def wanted_now(self):
        """Returns what the sort wants, None at its end."""
        if self.machine.waiting is None:
            return None
        return ("less", *self.machine.waiting)

    def accepts(self, answer):
        return isinstance(answer, bool)

    def take(self, answer):
        self.machine.take(answer)

    def given_so_far(self):
        """Returns all that was wanted and given, as tuples."""
        return [(("less", *question), answer) for question, answer in self.machine.log]

    def held_if_failed(self):
        """Returns the values as they stand if what is wanted raises an error."""
        return [self.held[item] for item in self.machine.order_now()]

    def held_at_end(self):
        return self.held_if_failed()

    def copied(self):
        """Returns a sort that stands as this one does."""
        other = LessSort(self.held, self.turned)
        other.is_touched = self.is_touched
        other.machine = self.machine.copied()
        return other


class KeySort:
    """A sort of values that wants a key for each of them."""

    def __init__(self, held, turned):
        self.held = list(held)
        self.turned = turned
        self.is_touched = False
        self.given = []

    def wanted_now(self):
        """Returns what the sort wants, None at its end."""
        if len(self.given) == len(self.held):
            return None
        return ("key", len(self.given))

    def accepts(self, answer):
        return is_integer(answer)

    def take(self, answer):
        self.given.append(answer)

    def given_so_far(self):
        """Returns all that was wanted and given, as tuples."""
        return [(("key", item), key) for item, key in enumerate(self.given)]

    def held_if_failed(self):
        """Returns the values as they stand if what is wanted raises an error."""
        return list(self.held)

    def held_at_end(self):
        return [self.held[item] for item in stable_order(self.given, reverse=self.turned)]

    def copied(self):
        """Returns a sort that stands as this one does."""
        other = KeySort(self.held, self.turned)
        other.is_touched = self.is_touched
        other.given = list(self.given)
        return other
