"""Runs: how they are found in the row 0, 1, .., n - 1."""

from askedorder.checks import MOST_KEYS, check_answers, check_keys, check_number
from askedorder.errors import Mismatch
from askedorder.runfinder import RunFinder


def run_of(keys, start):
    """Returns (length, items, questions) of the run at `start`."""
    check_keys(keys)
    check_number("start", start, 0, len(keys) - 1)
    row = list(range(len(keys)))
    length, questions = _find_honestly(keys, row, start)
    return length, row[start:start + length], questions


def run_lengths(keys):
    """Returns the lengths of the runs that are found one after another."""
    check_keys(keys)
    row = list(range(len(keys)))
    lengths = []
    start = 0
    while start < len(keys):
        length, _ = _find_honestly(keys, row, start)
        lengths.append(length)
        start += length
    return lengths


def standing(keys, start, count):
    """Returns the row if the question behind the first `count` ones fails."""
    check_keys(keys)
    check_number("start", start, 0, len(keys) - 1)
    _, questions = _find_honestly(keys, list(range(len(keys))), start)
    check_number("count", count, 0, len(questions))
    row = list(range(len(keys)))
    finder = RunFinder(row, start, len(keys))
    for one, other in questions[:count]:
        finder.take(keys[one] < keys[other])
    return row


def told_run(many, answers):
    """Returns (length, row, questions) of the run at 0 with any answers."""
    check_number("many", many, 1, MOST_KEYS)
    check_answers(answers)
    row = list(range(many))
    finder = RunFinder(row, 0, many)
    questions = []
    for answer in answers:
        if finder.waiting is None:
            raise Mismatch("answers")
        questions.append(finder.waiting)
        finder.take(answer)
    if finder.waiting is not None:
        questions.append(finder.waiting)
    return finder.length, row, questions


def _find_honestly(keys, row, start):
    """Finds the run at `start`, changing the row; returns (length, questions)."""
    finder = RunFinder(row, start, len(row))
    questions = []
    while finder.waiting is not None:
        one, other = finder.waiting
        questions.append(finder.waiting)
        finder.take(keys[one] < keys[other])
    return finder.length, questions
