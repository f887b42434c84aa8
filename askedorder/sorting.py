"""The sort of keys, with honest answers."""

from askedorder.asking import ask_honestly
from askedorder.checks import check_bool, check_keys
from askedorder.listsort import ListSort


def order_of(keys, *, reverse=False):
    """Returns the items as they stand at the end of the sort."""
    return _done(keys, reverse).order_now()


def questions_of(keys, *, reverse=False):
    """Returns all questions of the sort."""
    return [question for question, _ in _done(keys, reverse).log]


def count_of(keys, *, reverse=False):
    """Returns the number of questions of the sort."""
    return len(_done(keys, reverse).log)


def pieces_of(keys, *, reverse=False):
    """Returns the pieces as they come on the stack, as tuples (start, found, length)."""
    return [step[1:4] for step in _done(keys, reverse).steps if step[0] == "piece"]


def steps_of(keys, *, reverse=False):
    """Returns all steps: each piece that is found, and each join."""
    return _done(keys, reverse).steps


def _done(keys, reverse):
    """Returns the sort of keys at its end."""
    check_keys(keys)
    check_bool("reverse", reverse)
    sort = ListSort(len(keys), reverse)
    ask_honestly(sort, keys)
    return sort
