"""Runs: how they are found in the row 0, 1, .., n - 1."""

from askedorder.asking import ask_honestly, give_answers, honest_answers
from askedorder.checks import MOST_KEYS, check_answers, check_keys, check_number
from askedorder.errors import Mismatch
from askedorder.runfinder import RunFinder


def run_of(keys, start):
    """Returns (length, items, questions) of the run at `start`."""
    check_keys(keys)
    check_number("start", start, 0, len(keys) - 1)
    row = list(range(len(keys)))
    finder = RunFinder(row, start, len(row))
    questions = ask_honestly(finder, keys)
    return finder.length, row[start:start + finder.length], questions


def run_lengths(keys):
    """Returns the lengths of the runs that are found one after another."""
    check_keys(keys)
    row = list(range(len(keys)))
    lengths = []
    start = 0
    while start < len(keys):
        finder = RunFinder(row, start, len(row))
        ask_honestly(finder, keys)
        lengths.append(finder.length)
        start += finder.length
    return lengths


def standing(keys, start, count):
    """Returns the row if the question behind the first `count` ones fails."""
    check_keys(keys)
    check_number("start", start, 0, len(keys) - 1)
    questions = ask_honestly(RunFinder(list(range(len(keys))), start, len(keys)), keys)
    check_number("count", count, 0, len(questions))
    row = list(range(len(keys)))
    give_answers(RunFinder(row, start, len(row)), honest_answers(keys, questions[:count]))
    return row


def told_run(many, answers):
    """Returns (length, row, questions) of the run at 0 with any answers."""
    check_number("many", many, 1, MOST_KEYS)
    check_answers(answers)
    row = list(range(many))
    finder = RunFinder(row, 0, many)
    questions = give_answers(finder, answers)
    if len(questions) < len(answers):
        raise Mismatch("answers")
    if finder.waiting is not None:
        questions.append(finder.waiting)
    return finder.length, row, questions
