"""Answers of any kind: what a sort makes of them, and whether they are honest."""

from askedorder.asking import ask_honestly, give_answers
from askedorder.checks import check_answers, check_any_order, check_bool, check_log, check_number
from askedorder.endings import rows_to_the_end
from askedorder.errors import InvalidAnswers
from askedorder.listsort import ListSort
from askedorder.relations import Relations
from askedorder.shapes import all_shapes

MOST_ITEMS = 300
MOST_ENDED = 63
MOST_HONEST = 5


def told(many, answers, *, reverse=False):
    """Returns (asked, question, order) of a sort that takes these answers."""
    _check_many(many)
    check_answers(answers)
    check_bool("reverse", reverse)
    sort = ListSort(many, reverse)
    give_answers(sort, answers)
    if len(sort.log) < len(answers):
        raise InvalidAnswers(len(sort.log))
    return sort.log, sort.waiting, sort.order_now()


def judged(many, log, *, reverse=False):
    """Returns whether a log is one of a sort: ("unlike", place), ("open", question) or ("ended", order)."""
    _check_many_and_log(many, log)
    check_bool("reverse", reverse)
    sort = ListSort(many, reverse)
    for place, (question, answer) in enumerate(log):
        # Behind the end nothing waits, which is unlike any question.
        if question != sort.waiting:
            return "unlike", place
        sort.take(answer)
    if sort.waiting is None:
        return "ended", sort.order_now()
    return "open", sort.waiting


def are_honest(many, log):
    """Returns whether there are keys to which all answers of a log are honest."""
    _check_many_and_log(many, log)
    return Relations(many).first_lie(log) is None


def first_lie(many, log):
    """Returns the place of the first entry with which a log is not honest, None if it is honest."""
    _check_many_and_log(many, log)
    return Relations(many).first_lie(log)


def least_keys(many, log):
    """Returns the least keys to which the answers of a log are honest, None if it is not honest."""
    _check_many_and_log(many, log)
    relations = Relations(many)
    if relations.first_lie(log) is not None:
        return None
    return relations.least_keys()


def answers_for(order, *, reverse=False):
    """Returns the answers with which a sort of unlike keys ends in an order."""
    check_any_order(order, MOST_ITEMS)
    check_bool("reverse", reverse)
    keys = [0] * len(order)
    for place, item in enumerate(order):
        keys[item] = -place if reverse else place
    return _honest_row(keys, reverse)


def ended_rows(many):
    """Returns how many rows of answers lead a sort just to its end, as tuples (count, rows)."""
    check_number("many", many, 0, MOST_ENDED)
    return [(count, rows) for count, rows in enumerate(rows_to_the_end(many)) if rows > 0]


def honest_rows(many):
    """Returns how many of these rows are the answers of an honest log."""
    check_number("many", many, 0, MOST_HONEST)
    return len({tuple(_honest_row(keys, False)) for keys in all_shapes(many)})


def _honest_row(keys, reverse):
    """Returns all answers of the sort of keys."""
    sort = ListSort(len(keys), reverse)
    ask_honestly(sort, keys)
    return [answer for _, answer in sort.log]


def _check_many(many):
    check_number("many", many, 0, MOST_ITEMS)


def _check_many_and_log(many, log):
    _check_many(many)
    check_log(log, many)
