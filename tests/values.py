"""Values of many kinds, to be put in the place of arguments, and a check that uses them."""

import copy
import inspect

from askedorder.errors import (
    InvalidAnswers, InvalidKeys, InvalidLengths, InvalidNumber, InvalidOrder, Mismatch, SortError,
)
from askedorder.lines import Line
from askedorder.live import Sorter

HUGE = 10 ** 5000


def a_generator():
    yield 1


def odd_values():
    """Values of built-in types (no float) and of classes of the interface, made anew."""
    return [
        None, True, False, 0, 1, -1, 2, 63, 64, 1999, 2000, 2001, HUGE, -HUGE, 1j,
        "", "0", "keys", b"", b"\x00\x01", bytearray(b"\x00"), memoryview(b"\x00"),
        [], (), [0], (0,), [1, 0], (0, 1), (1, 0), (0, 0), [[]], ([],), [[0], [1]], [None], (True,), [False, True],
        {}, {0: 1}, {0: True, 1: False}, set(), {0}, {0, 1}, frozenset(), frozenset({0, 1}),
        range(0), range(2), slice(0, 1), iter([0]), zip([0]), enumerate([0]), reversed([0]), map(abs, [0]),
        a_generator(), a_generator, len, int, list, object(), object, lambda: 0, [].append, print,
        Ellipsis, NotImplemented, {}.keys(), {0: 1}.items(), Exception("x"), InvalidKeys(0), Mismatch([]), SortError,
        Sorter(2), Line([1, 2]), Sorter, Line,
    ]


def is_int(value):
    return type(value) is int


def is_keys(value):
    return type(value) in (list, tuple) and len(value) <= 2000 and all(is_int(key) for key in value)


def int_within(least, most=None):
    """A function that tells whether a value is an integer from `least` to `most`."""
    return lambda value: is_int(value) and value >= least and (most is None or value <= most)


def is_answers(value):
    return type(value) in (list, tuple) and all(type(answer) is bool for answer in value)


def first_index(values, wrong):
    """The place of the first entry for which `wrong` holds."""
    return [index for index, value in enumerate(values) if wrong(value)][0]


class Raising:
    """To be mixed into a TestCase."""

    def assert_raises(self, error, call, *args, **named):
        """Checks the class of the error, and the one attribute that it stores."""
        with self.assertRaises(SortError) as caught:
            call(*args, **named)
        self.assertIs(type(caught.exception), type(error))
        ((name, value),) = vars(error).items()
        self.assertEqual(list(vars(caught.exception)), [name])
        got = getattr(caught.exception, name)
        self.assertTrue(got is value or (type(got) is type(value) and got == value), (name, got))


def keys_error(value, fewest=0, most=2000):
    """The error that a value raises in the place of keys, None if it is such."""
    return _row_error(InvalidKeys, value, fewest, most, is_int)


def answers_error(value):
    return _row_error(InvalidAnswers, value, 0, 10 ** 9, lambda answer: type(answer) is bool)


def lengths_error(value, fewest, most, longest=None):
    return _row_error(InvalidLengths, value, fewest, most, int_within(1, longest))


def order_error(value, most):
    """The error that a value raises in the place of an order of as many items as it has entries."""
    if type(value) not in (list, tuple) or len(value) > most:
        return InvalidOrder(-1)
    for index, item in enumerate(value):
        if not int_within(0, len(value) - 1)(item) or item in value[:index]:
            return InvalidOrder(index)
    return None


def is_question(value, many):
    is_item = int_within(0, many - 1)
    return type(value) is tuple and len(value) == 2 and all(map(is_item, value)) and value[0] != value[1]


def log_error(value, many):
    """The error that a value raises in the place of a log of so many items."""
    def is_entry(entry):
        is_pair = type(entry) is tuple and len(entry) == 2
        return is_pair and is_question(entry[0], many) and type(entry[1]) is bool

    return _row_error(InvalidAnswers, value, 0, 5000, is_entry)


def odd_logs():
    """Values that are nearly logs of three items."""
    right = ((0, 1), True)
    entries = [
        [(0, 1), True], ((0, 1),), ((0, 1), True, True), ((0, 1), 1), ((0, 1), None), ([0, 1], True), ((0, 0), True),
        ((0, 3), True), ((-1, 0), True), ((0, True), True), ((0, 1, 2), True), (0, 1), ((0, 1), True, False), None, {},
    ]
    return [[entry] for entry in entries] + [(right, entry, None) for entry in entries] + [[right] * 5001]


def number_error(name, is_right):
    """A function that returns the error of a value in the place of a number, None if it is one."""
    return lambda value: None if is_right(value) else InvalidNumber(name)


def _row_error(error, value, fewest, most, is_right):
    if type(value) not in (list, tuple) or not fewest <= len(value) <= most:
        return error(-1)
    if all(is_right(entry) for entry in value):
        return None
    return error(first_index(value, lambda entry: not is_right(entry)))


class Checking(Raising):
    """To be mixed into a TestCase."""

    def assert_rejected(self, call, args, place, error_of, more=()):
        """Puts odd values, and `more`, in the place of one argument: by position and by keyword.

        The arguments behind it are wrong, too, so that the first one decides.
        """
        names = argument_names(call)[:len(args)]
        rejected = 0
        for value in [*odd_values(), *more]:
            error = error_of(value)
            if error is not None:
                rejected += 1
                self.assert_raises(error, call, *args[:place], value, *args[place + 1:])
                wrong = [*args[:place], value, *[None] * (len(args) - place - 1)]
                self.assert_raises(error, call, **dict(zip(names, wrong)))
        self.assertGreater(rejected, 0)

    def assert_checked(self, call, right, error_of, more=None):
        """Puts odd values in the place of each argument, which is checked in the order of the dict `right`.

        `error_of` has functions that return the error of a value, or None if
        it is right; `more` has further values. The arguments behind it are
        right once, and once wrong, so that the first one decides.
        """
        names = list(right)
        for at, name in enumerate(names):
            rejected = 0
            for value in [*odd_values(), *(more or {}).get(name, ())]:
                error = error_of[name](value)
                if error is not None:
                    rejected += 1
                    given = {**right, name: value}
                    wrong = {later: object() for later in names[at + 1:]}
                    self.assert_raises(error, call, **given)
                    self.assert_raises(error, call, **{**given, **wrong})
                    by_position = [given.pop(early) for early in names if early in argument_names(call)]
                    self.assert_raises(error, call, *by_position, **given)
            self.assertGreater(rejected, 0, name)

    def assert_same(self, found, expected):
        """Checks that two values are equal, and made of values of the same kinds."""
        self.assertTrue(same(found, expected), (found, expected))

    def assert_pure(self, call, *args, **named):
        """Checks what holds of all calls; returns what this one returns.

        It changes no argument, what it returns is new, arguments by keyword
        are the same as by position, and tuples the same as lists.
        """
        ahead = copy.deepcopy((args, named))
        found = call(*args, **named)
        self.assert_same((args, named), ahead)
        kept = copy.deepcopy(found)
        spoil(found)
        self.assert_same(call(*args, **named), kept)
        self.assert_same(call(**dict(zip(argument_names(call), args)), **named), kept)
        self.assert_same(call(*[other_kind(arg) for arg in args], **named), kept)
        return kept


def argument_names(call):
    """The names of the arguments that can be given by position."""
    parameters = inspect.signature(call).parameters.values()
    return [parameter.name for parameter in parameters if parameter.kind == parameter.POSITIONAL_OR_KEYWORD]


def same(one, other):
    if type(one) is not type(other):
        return False
    if isinstance(one, (list, tuple)):
        return len(one) == len(other) and all(map(same, one, other))
    if isinstance(one, dict):
        return same(sorted(one.items()), sorted(other.items()))
    return one == other


def spoil(value):
    """Changes all lists in what was returned."""
    if isinstance(value, (list, tuple)):
        for entry in value:
            spoil(entry)
    if isinstance(value, list):
        value.append("spoilt")
        value.reverse()


def other_kind(value):
    """A tuple for a list, and a list for a tuple."""
    if isinstance(value, list):
        return tuple(value)
    return list(value) if isinstance(value, tuple) else value
