"""Logs, and what they tell by all rows of keys there are, for few items."""

import itertools
import random

from askedorder.sorting import questions_of


def log_of(keys, reverse=False):
    """The log of a sort with honest answers."""
    return honest_log(keys, questions_of(keys, reverse=reverse))


def honest_log(keys, questions):
    return [((one, other), keys[one] < keys[other]) for one, other in questions]


def fits(keys, log):
    """Whether all answers of a log are honest to keys."""
    return all((keys[one] < keys[other]) == answer for (one, other), answer in log)


def keys_that_fit(many, log):
    """All rows of small keys to which a log is honest: so many of them as tell all that any keys tell."""
    return [keys for keys in itertools.product(range(many), repeat=many) if fits(keys, log)]


def pairs_of(many):
    return list(itertools.permutations(range(many), 2))


def few_logs(many, longest):
    """All logs of so many items of up to so many entries."""
    entries = list(itertools.product(pairs_of(many), (False, True)))
    for length in range(longest + 1):
        yield from (list(log) for log in itertools.product(entries, repeat=length))


def random_logs(numbers, many, longest, count):
    """Logs with answers of any kind, most of which are honest to some keys."""
    pairs = pairs_of(many)
    for _ in range(count):
        keys = [numbers.randrange(many) for _ in range(many)]
        log = honest_log(keys, [numbers.choice(pairs) for _ in range(numbers.randrange(longest + 1))])
        if log and numbers.random() < 0.5:
            at = numbers.randrange(len(log))
            log[at] = (log[at][0], not log[at][1])
        yield log


def all_small_logs():
    """Tuples (many, log): all logs of up to three items and three entries, and some longer ones."""
    for many in range(4):
        for log in few_logs(many, 3 if many < 3 else 2):
            yield many, log
    numbers = random.Random(91)
    for many, longest in ((3, 6), (4, 5), (4, 9)):
        for log in random_logs(numbers, many, longest, 120):
            yield many, log
