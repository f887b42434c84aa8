"""Checks of arguments: each one raises the error of the general rules."""

from askedorder.errors import InvalidAnswers, InvalidKeys, InvalidLengths, InvalidNumber, InvalidOrder, InvalidQuestion

MOST_KEYS = 2000
MOST_ENTRIES = 5000
GREATEST_ROW = 10 ** 30


def is_integer(value):
    """Returns whether a value is an integer; bools are none."""
    return isinstance(value, int) and not isinstance(value, bool)


def is_within(value, least, most):
    """Returns whether a value is an integer from `least` to `most`, without a bound above if that is None."""
    return is_integer(value) and value >= least and (most is None or value <= most)


def is_item(value, many):
    """Returns whether a value is one of so many items."""
    return is_within(value, 0, many - 1)


def check_keys(keys, fewest=0, most=MOST_KEYS):
    if not isinstance(keys, (list, tuple)) or not fewest <= len(keys) <= most:
        raise InvalidKeys(-1)
    for index, key in enumerate(keys):
        if not is_integer(key):
            raise InvalidKeys(index)


def is_question(value, many):
    """Returns whether a value is a question of so many items."""
    if not isinstance(value, tuple) or len(value) != 2:
        return False
    one, other = value
    return is_item(one, many) and is_item(other, many) and one != other


def check_question(question, many):
    if not is_question(question, many):
        raise InvalidQuestion(question)


def check_answers(answers):
    if not isinstance(answers, (list, tuple)):
        raise InvalidAnswers(-1)
    for index, answer in enumerate(answers):
        if not isinstance(answer, bool):
            raise InvalidAnswers(index)


def check_log(log, many):
    if not isinstance(log, (list, tuple)) or len(log) > MOST_ENTRIES:
        raise InvalidAnswers(-1)
    for index, entry in enumerate(log):
        if not _is_entry(entry, many):
            raise InvalidAnswers(index)


def _is_entry(value, many):
    """Returns whether a value is an entry of a log: a question and its answer."""
    if not isinstance(value, tuple) or len(value) != 2:
        return False
    question, answer = value
    return is_question(question, many) and isinstance(answer, bool)


def check_order(order, many):
    if not isinstance(order, (list, tuple)) or len(order) != many:
        raise InvalidOrder(-1)
    seen = [False] * many
    for index, item in enumerate(order):
        if not is_item(item, many) or seen[item]:
            raise InvalidOrder(index)
        seen[item] = True


def check_any_order(order, most):
    """Checks an order of as many items as it has entries, which are not more than `most`."""
    if not isinstance(order, (list, tuple)) or len(order) > most:
        raise InvalidOrder(-1)
    check_order(order, len(order))


def check_lengths(lengths, fewest, most, longest=None):
    """Checks a row of integers from 1 to `longest`, of any size if it is None."""
    if not isinstance(lengths, (list, tuple)) or not fewest <= len(lengths) <= most:
        raise InvalidLengths(-1)
    for index, length in enumerate(lengths):
        if not is_within(length, 1, longest):
            raise InvalidLengths(index)


def check_number(name, value, least, most=None):
    if not is_within(value, least, most):
        raise InvalidNumber(name)


def check_bool(name, value):
    if not isinstance(value, bool):
        raise InvalidNumber(name)
