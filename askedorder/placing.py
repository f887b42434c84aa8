"""Placing: how short stretches of a row are sorted."""

from askedorder.asking import ask_honestly, give_answers, honest_answers
from askedorder.checks import GREATEST_ROW, check_answers, check_keys, check_number
from askedorder.errors import Mismatch
from askedorder.halving import fewest_of_halving, most_of_halving
from askedorder.placer import Placer

MOST_PLACED = 64
LEAST_HALVED = 64


def least_length(many):
    """Returns the least length that pieces are to have in a row of so many items."""
    check_number("many", many, 0, GREATEST_ROW)
    rounded_off = 0
    while many >= LEAST_HALVED:
        if many % 2 == 1:
            rounded_off = 1
        many //= 2
    return many + rounded_off


def placed(keys, ready):
    """Returns (order, questions) of placing, the first `ready` items being ready."""
    _check_placing(keys, ready)
    row = list(range(len(keys)))
    questions = ask_honestly(Placer(row, 0, len(row), ready), keys)
    return row, questions


def placing_standing(keys, ready, count):
    """Returns the row if the question behind the first `count` ones fails."""
    _check_placing(keys, ready)
    questions = ask_honestly(Placer(list(range(len(keys))), 0, len(keys), ready), keys)
    check_number("count", count, 0, len(questions))
    row = list(range(len(keys)))
    give_answers(Placer(row, 0, len(row), ready), honest_answers(keys, questions[:count]))
    return row


def told_placing(many, ready, answers):
    """Returns (finished, row, questions) of placing with any answers."""
    _check_numbers(many, ready)
    check_answers(answers)
    row = list(range(many))
    placer = Placer(row, 0, many, ready)
    questions = give_answers(placer, answers)
    if len(questions) < len(answers):
        raise Mismatch("answers")
    if placer.waiting is None:
        return True, row, questions
    questions.append(placer.waiting)
    return False, row, questions


def fewest_placing(many, ready):
    """Returns how many questions placing asks at least."""
    _check_numbers(many, ready)
    return sum([fewest_of_halving(index) for index in _placed_indexes(many, ready)])


def most_placing(many, ready):
    """Returns how many questions placing asks at most."""
    _check_numbers(many, ready)
    return sum([most_of_halving(index) for index in _placed_indexes(many, ready)])


def easy_keys(many, ready):
    """Returns keys with which placing asks as few questions as it can."""
    _check_numbers(many, ready)
    # An item that stays where it is is asked as few questions as can be.
    return list(range(many))


def hard_keys(many, ready):
    """Returns keys with which placing asks as many questions as it can."""
    _check_numbers(many, ready)
    # An item that is put at the index 0 is asked as many questions as can be.
    return list(range(ready)) + [-index for index in range(ready, many)]


def _placed_indexes(many, ready):
    return list(range(max(ready, 1), many))


def _check_placing(keys, ready):
    check_keys(keys, 0, MOST_PLACED)
    check_number("ready", ready, 0, len(keys))


def _check_numbers(many, ready):
    check_number("many", many, 0, MOST_PLACED)
    check_number("ready", ready, 0, many)
