"""Joins: how two sorted stretches that stand side by side become one."""

from askedorder.asking import ask_honestly, give_answers, honest_answers
from askedorder.checks import check_answers, check_keys, check_lengths, check_number, is_within
from askedorder.errors import InvalidAnswers, InvalidLengths
from askedorder.joincounter import JoinCounter
from askedorder.joiner import Joiner

MOST_PATIENCE = 10 ** 9
MOST_ANSWERED = 1000
MOST_STRETCHES = 200
LONGEST_STRETCH = 10 ** 20


def joined(first, second, patience=7):
    """Returns (order, questions, patience, span, aside) of a join with honest answers."""
    _check_join(first, second, patience)
    joiner = _joiner_of(len(first), len(second), patience)
    questions = ask_honestly(joiner, [*first, *second])
    return joiner.order_now(), questions, joiner.patience_now, (joiner.low, joiner.high), joiner.aside


def standing_in(first, second, patience, count):
    """Returns (order, patience) if the question behind the first `count` ones fails."""
    _check_join(first, second, patience)
    both = [*first, *second]
    questions = ask_honestly(_joiner_of(len(first), len(second), patience), both)
    check_number("count", count, 0, len(questions) - 1)
    joiner = _joiner_of(len(first), len(second), patience)
    give_answers(joiner, honest_answers(both, questions[:count]))
    return joiner.order_now(), joiner.patience_now


def answered(sizes, answers, patience=7):
    """Returns (order, questions, patience, open) of a join with any answers."""
    check_lengths(sizes, 2, 2, MOST_ANSWERED)
    check_answers(answers)
    _check_patience(patience)
    joiner = _joiner_of(sizes[0], sizes[1], patience)
    questions = give_answers(joiner, answers)
    if len(questions) < len(answers):
        raise InvalidAnswers(len(questions))
    return joiner.order_now(), questions, joiner.patience_now, joiner.waiting


def join_count(lengths, patience=7):
    """Returns (count, patience, aside) of an honest join that is told by lengths."""
    _check_stretches(lengths)
    _check_patience(patience)
    counter = JoinCounter(lengths, patience)
    counter.go_through()
    return counter.count, counter.patience_now, counter.many_aside


def _joiner_of(many_first, many_second, patience):
    first = list(range(many_first))
    second = list(range(many_first, many_first + many_second))
    return Joiner(first, second, patience)


def _check_join(first, second, patience):
    check_keys(first, 1)
    check_keys(second, 1)
    _check_patience(patience)


def _check_patience(patience):
    check_number("patience", patience, 1, MOST_PATIENCE)


def _check_stretches(lengths):
    if not isinstance(lengths, (list, tuple)) or not 2 <= len(lengths) <= MOST_STRETCHES:
        raise InvalidLengths(-1)
    for index, length in enumerate(lengths):
        # With two lengths alone, first would have no items if the first one were 0.
        least = 0 if index == 0 and len(lengths) > 2 else 1
        if not is_within(length, least, LONGEST_STRETCH):
            raise InvalidLengths(index)
