"""Checks of arguments: each one raises the error of the general rules."""

from askedorder.errors import InvalidAnswers, InvalidKeys, InvalidNumber, InvalidOrder, InvalidQuestion

MOST_KEYS = 2000


def is_integer(value):
    """Returns whether a value is an integer; bools are none."""
    return isinstance(value, int) and not isinstance(value, bool)


def is_item(value, many):
    """Returns whether a value is one of so many items."""
    return is_integer(value) and 0 <= value < many


def check_keys(keys):
    if not isinstance(keys, (list, tuple)) or len(keys) > MOST_KEYS:
        raise InvalidKeys(-1)
    for index, key in enumerate(keys):
        if not is_integer(key):
            raise InvalidKeys(index)


def check_question(question, many):
    if not isinstance(question, tuple) or len(question) != 2:
        raise InvalidQuestion(question)
    one, other = question
    if not is_item(one, many) or not is_item(other, many) or one == other:
        raise InvalidQuestion(question)


def check_answers(answers):
    if not isinstance(answers, (list, tuple)):
        raise InvalidAnswers(-1)
    for index, answer in enumerate(answers):
        if not isinstance(answer, bool):
            raise InvalidAnswers(index)


def check_order(order, many):
    if not isinstance(order, (list, tuple)) or len(order) != many:
        raise InvalidOrder(-1)
    seen = [False] * many
    for index, item in enumerate(order):
        if not is_item(item, many) or seen[item]:
            raise InvalidOrder(index)
        seen[item] = True


def check_number(name, value, least, most):
    if not is_integer(value) or not least <= value <= most:
        raise InvalidNumber(name)


def check_bool(name, value):
    if not isinstance(value, bool):
        raise InvalidNumber(name)
