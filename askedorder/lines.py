"""Lists that are looked at and changed while they are sorted."""

from askedorder.checks import check_bool, check_keys, is_integer
from askedorder.errors import InvalidAnswer, InvalidNumber, Mismatch, NothingAsked, RowChanged, TooLarge
from askedorder.linesorts import KeySort, LessSort

MOST_SHOWN = 300


class Line:
    """A list of integers that is sorted step by step, and can be changed in between."""

    def __init__(self, values):
        _check_values(values)
        self._shown = list(values)
        # The sorts that are on, the innermost one last.
        self._sorts = []

    def shown(self):
        """Returns the values that the line shows."""
        return list(self._shown)

    def depth(self):
        """Returns how many sorts are on."""
        return len(self._sorts)

    def begin(self, *, reverse=False, by="less"):
        """Begins a sort of the values that the line shows."""
        check_bool("reverse", reverse)
        if not isinstance(by, str) or by not in ("less", "key"):
            raise InvalidNumber("by")
        begun = LessSort(self._shown, reverse) if by == "less" else KeySort(self._shown, reverse)
        # A sort that wants nothing ends at once, and leaves its values as they are.
        if begun.wanted_now() is not None:
            self._sorts.append(begun)
            self._shown = []

    def wants(self):
        """Returns what the current sort wants, None if no sort is on."""
        return self._sorts[-1].wanted_now() if self._sorts else None

    def asked(self):
        """Returns all that the current sort has wanted and was given."""
        return self._sorts[-1].given_so_far() if self._sorts else []

    def give(self, answer):
        """Gives what is wanted."""
        current = self._current()
        if not current.accepts(answer):
            raise InvalidAnswer(answer)
        current.take(answer)
        if current.wanted_now() is None:
            lost = len(self._shown)
            self._end_current(current.held_at_end())
            if current.is_touched:
                raise RowChanged(lost)

    def fail(self):
        """Ends the current sort as if that from which something is wanted raised an error."""
        self._end_current(self._current().held_if_failed())

    def standing(self):
        """Returns the values in the order in which `fail` would leave them."""
        return self._current().held_if_failed()

    def is_changed(self):
        """Returns whether the current sort is changed."""
        return self._current().is_touched

    def append(self, value):
        """Puts a value behind all others."""
        _check_integer("value", value)
        self._check_room(1)
        self._put_at(len(self._shown), [value])

    def insert(self, place, value):
        """Puts a value ahead of the one at a place."""
        _check_integer("place", place)
        _check_integer("value", value)
        self._check_room(1)
        self._put_at(place, [value])

    def extend(self, values):
        """Puts several values behind all others."""
        _check_values(values)
        self._check_room(len(values))
        self._put_at(len(self._shown), values)

    def replace(self, values):
        """Puts several values in place of all."""
        _check_values(values)
        self._shown = []
        self._put_at(0, values)

    def pop(self, place=-1):
        """Takes the value at a place away and returns it."""
        _check_integer("place", place)
        many = len(self._shown)
        if not -many <= place < many:
            raise Mismatch("place")
        return self._shown.pop(place)

    def remove(self, value):
        """Takes the first of these values away."""
        _check_integer("value", value)
        if value not in self._shown:
            raise Mismatch("value")
        self._shown.remove(value)

    def clear(self):
        """Takes all values away."""
        self._shown = []

    def turn(self):
        """Turns the order of the values round."""
        self._shown.reverse()

    def copied(self):
        """Returns a line that stands as this one does, with all its sorts."""
        other = Line(self._shown)
        other._sorts = [sort.copied() for sort in self._sorts]
        return other

    def _current(self):
        if not self._sorts:
            raise NothingAsked(0)
        return self._sorts[-1]

    def _end_current(self, held):
        self._sorts.pop()
        self._shown = held

    def _check_room(self, many):
        if len(self._shown) + many > MOST_SHOWN:
            raise TooLarge(MOST_SHOWN)

    def _put_at(self, place, values):
        # A slice takes a place beyond an end for the end, as inserting does.
        self._shown[place:place] = values
        if self._sorts and len(values) > 0:
            current = self._sorts[-1]
            current.is_touched = True


def _check_values(values):
    check_keys(values, 0, MOST_SHOWN)


def _check_integer(name, value):
    if not is_integer(value):
        raise InvalidNumber(name)
