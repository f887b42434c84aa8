"""Heaps: which questions the functions of the module heapq ask."""

from askedorder.asking import ask_honestly, give_answers
from askedorder.checks import check_answers, check_any_order, check_keys, check_number, is_integer
from askedorder.errors import InvalidAnswers, InvalidHeap, InvalidNumber
from askedorder.heapdeed import DEEDS, HeapDeed
from askedorder.heapshapes import (
    fewest_of_sink, most_of_sink, number_beginning_with, number_of_heaps, sum_of_sinks,
)

MOST_KEYS = 2500
MOST_TOLD = 10 ** 18
MOST_COUNTED = 300
MOST_NUMBERED = 60


def is_heap(keys):
    """Returns whether keys are a heap."""
    return heap_fault(keys) is None


def heap_fault(keys):
    """Returns the first place whose key is less than that of its parent, None if there is none."""
    check_keys(keys, 0, MOST_KEYS)
    return _first_fault(keys)


def deed_done(deed, keys, key=None):
    """Returns (order, given, questions) of a deed with honest answers."""
    _check_deed(deed)
    check_keys(keys, 0, MOST_KEYS)
    if not (is_integer(key) if _has_new_item(deed) else key is None):
        raise InvalidNumber("key")
    _check_not_empty(deed, len(keys))
    done = _begun(deed, len(keys))
    questions = ask_honestly(done, [*keys, key])
    return done.row, done.given, questions


def deed_told(deed, many, answers):
    """Returns (order, given, question, questions) of a deed with any answers."""
    _check_deed(deed)
    check_number("many", many, 0, MOST_KEYS)
    check_answers(answers)
    _check_not_empty(deed, many)
    begun = _begun(deed, many)
    questions = give_answers(begun, answers)
    if len(questions) < len(answers):
        raise InvalidAnswers(len(questions))
    given = begun.given if begun.waiting is None else None
    return begun.row, given, begun.waiting, questions


def fewest_asked(deed, many):
    """Returns the least number of questions that a deed asks, for answers of any kind."""
    _check_deed_and_many(deed, many)
    if deed == "push":
        return min(_levels_above(many), 1)
    if deed == "pushpop":
        return min(many, 1)
    return _asked_by_sinks(deed, many, fewest_of_sink)


def most_asked(deed, many):
    """Returns the greatest number of questions that a deed asks, for answers of any kind."""
    _check_deed_and_many(deed, many)
    if deed == "push":
        return _levels_above(many)
    if deed == "pushpop":
        return min(many, 1) + most_of_sink(many)
    return _asked_by_sinks(deed, many, most_of_sink)


def drained(keys):
    """Returns (items, counts): the items as "pop" gives them behind "heapify", and the questions of each deed."""
    check_keys(keys, 0, MOST_KEYS)
    row = list(range(len(keys)))
    counts = [len(ask_honestly(HeapDeed("heapify", row, None), keys))]
    given = []
    while row:
        taken = HeapDeed("pop", row, None)
        counts.append(len(ask_honestly(taken, keys)))
        given.append(taken.given)
    return given, counts


def count_heaps(many):
    """Returns how many orders of so many items are heaps."""
    check_number("many", many, 0, MOST_COUNTED)
    return number_of_heaps(many)


def heap_place(order):
    """Returns the number of a heap among all heaps of so many items."""
    check_any_order(order, MOST_NUMBERED)
    fault = _first_fault(order)
    if fault is not None:
        raise InvalidHeap(fault)
    number = 0
    for place, key in enumerate(order):
        for less in _keys_that_fit(order[:place], len(order)):
            if less < key:
                number += number_beginning_with([*order[:place], less], len(order))
    return number


def heap_at(many, place):
    """Returns the heap of so many items that has a number."""
    check_number("many", many, 0, MOST_NUMBERED)
    check_number("place", place, 0, number_of_heaps(many) - 1)
    order = []
    left = place
    while len(order) < many:
        key, left = _next_key(order, many, left)
        order.append(key)
    return order


def _next_key(ahead, many, left):
    """Returns the key behind those ahead in the heap that has this number among all that begin so.

    The second thing that is returned is the number among those that begin
    with this key, too.
    """
    for key in _keys_that_fit(ahead, many):
        number = number_beginning_with([*ahead, key], many)
        if left < number:
            return key, left
        left -= number
    return None


def _keys_that_fit(ahead, many):
    """Returns the keys, ascending, that can stand behind those ahead without being less than their parent."""
    least = ahead[(len(ahead) - 1) // 2] if ahead else 0
    return [key for key in range(least, many) if key not in ahead]


def _first_fault(keys):
    for place in range(1, len(keys)):
        if keys[place] < keys[(place - 1) // 2]:
            return place
    return None


def _begun(deed, many):
    return HeapDeed(deed, list(range(many)), many)


def _levels_above(place):
    return (place + 1).bit_length() - 1


def _asked_by_sinks(deed, many, of_sink):
    """Returns what "heapify", "pop" and "replace" ask, if `of_sink` tells it of a single sink."""
    if deed == "heapify":
        return sum_of_sinks(many, of_sink)
    return of_sink(many - 1 if deed == "pop" else many)


def _has_new_item(deed):
    return deed in ("push", "replace", "pushpop")


def _check_deed(deed):
    if not isinstance(deed, str) or deed not in DEEDS:
        raise InvalidNumber("deed")


def _check_deed_and_many(deed, many):
    _check_deed(deed)
    check_number("many", many, 0, MOST_TOLD)
    _check_not_empty(deed, many)


def _check_not_empty(deed, many):
    if many == 0 and deed in ("pop", "replace"):
        raise InvalidHeap(-1)
