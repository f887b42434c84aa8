"""Leaps: how the place of a key is found in a row."""

from askedorder.checks import GREATEST_ROW, check_keys, check_number, is_integer
from askedorder.errors import InvalidNumber
from askedorder.halving import most_of_halving, total_of_halving
from askedorder.leaper import leap, places_of_leap


def before(key, keys, hint):
    """Returns (place, asked): the place ahead of equal keys, and the places that are asked."""
    _check_leap(key, keys, hint)
    return leap(len(keys), hint, lambda at: keys[at] < key)


def behind(key, keys, hint):
    """Returns (place, asked): the place behind equal keys, and the places that are asked."""
    _check_leap(key, keys, hint)
    return leap(len(keys), hint, lambda at: not key < keys[at])


def leap_places(n, hint, place):
    """Returns the places that are asked if a place is found in a row that rises weakly."""
    _check_row(n, hint)
    check_number("place", place, 0, n)
    return places_of_leap(n, hint, place)


def most_leap(n, hint):
    """Returns (number, place): the most places that are asked, and the least place with which they are."""
    _check_row(n, hint)
    most = 0
    least_place = n
    for left, right, asked in _endings(n, hint):
        # Halving that never finds a low place ends at `left`, and asks most:
        # of the two halves it goes on with the one that is not shorter.
        number = asked + most_of_halving(right - left)
        if number > most or number == most and left < least_place:
            most = number
            least_place = left
    return most, least_place


def total_leap(n, hint):
    """Returns the sum of the numbers of asked places over all places that can be found."""
    _check_row(n, hint)
    total = 0
    for left, right, asked in _endings(n, hint):
        total += (right - left + 1) * asked + total_of_halving(right - left)
    return total


def _endings(n, hint):
    """Returns all ways in which the steps of a leap can end, as tuples (left, right, asked).

    The places from left to right are those that halving can then find, and
    each place from 0 to n is one of a single way; `asked` counts the places
    that are asked ahead of halving.
    """
    return _endings_on_a_side(n, hint, True) + _endings_on_a_side(n, hint, False)


def _endings_on_a_side(n, hint, upward):
    found = []
    longest = n - hint if upward else hint + 1
    last = 0
    step = 1
    asked = 1
    while step < longest:
        asked += 1
        found.append(_ending(hint, last, step, upward, asked))
        last = step
        step = 2 * step + 1
    found.append(_ending(hint, last, longest, upward, asked))
    return found


def _ending(hint, last, step, upward, asked):
    if upward:
        return hint + last + 1, hint + step, asked
    return hint - step + 1, hint - last, asked


def _check_leap(key, keys, hint):
    if not is_integer(key):
        raise InvalidNumber("key")
    check_keys(keys)
    check_number("hint", hint, 0, len(keys) - 1)


def _check_row(n, hint):
    check_number("n", n, 1, GREATEST_ROW)
    check_number("hint", hint, 0, n - 1)
