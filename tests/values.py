"""Values of many kinds, to be put in the place of arguments, and a check that uses them."""

from askedorder.errors import InvalidKeys, Mismatch, SortError

HUGE = 10 ** 5000


def a_generator():
    yield 1


def odd_values():
    """Values of built-in types (no float) and of classes of the interface, made anew."""
    return [
        None, True, False, 0, 1, -1, 2, 63, 64, 1999, 2000, 2001, HUGE, -HUGE, 1j,
        "", "0", "keys", b"", b"\x00\x01", bytearray(b"\x00"), memoryview(b"\x00"),
        [], (), [0], (0,), [1, 0], (0, 1), (1, 0), (0, 0), [[]], ([],), [[0], [1]], [None], (True,), [False, True],
        {}, {0: 1}, {0: True, 1: False}, set(), {0}, {0, 1}, frozenset(), frozenset({0, 1}),
        range(0), range(2), slice(0, 1), iter([0]), zip([0]), enumerate([0]), reversed([0]), map(abs, [0]),
        a_generator(), a_generator, len, int, list, object(), object, lambda: 0, [].append, print,
        Ellipsis, NotImplemented, {}.keys(), {0: 1}.items(), Exception("x"), InvalidKeys(0), Mismatch([]), SortError,
    ]


def is_int(value):
    return type(value) is int


def is_keys(value):
    return type(value) in (list, tuple) and len(value) <= 2000 and all(is_int(key) for key in value)


def is_answers(value):
    return type(value) in (list, tuple) and all(type(answer) is bool for answer in value)


def first_index(values, wrong):
    """The place of the first entry for which `wrong` holds."""
    return [index for index, value in enumerate(values) if wrong(value)][0]


class Raising:
    """To be mixed into a TestCase."""

    def assert_raises(self, error, call, *args, **named):
        """Checks the class of the error, and the one attribute that it stores."""
        with self.assertRaises(SortError) as caught:
            call(*args, **named)
        self.assertIs(type(caught.exception), type(error))
        ((name, value),) = vars(error).items()
        self.assertEqual(list(vars(caught.exception)), [name])
        got = getattr(caught.exception, name)
        self.assertTrue(got is value or (type(got) is type(value) and got == value), (name, got))
