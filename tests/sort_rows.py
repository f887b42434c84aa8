"""Rows of keys of many kinds, with which a sort does all that it can do."""

import itertools
import random

# Lengths of runs with which joins make room, and with which behind the last
# piece the third one from above is shorter than the uppermost one, so that it
# is joined with the second one first.
SHORT_THIRD = [64, 190, 890, 300, 150, 400]


def shapes(many):
    """All ways in which so many keys can stand to one another."""
    for keys in itertools.product(range(many), repeat=many):
        if set(keys) == set(range(len(set(keys)))):
            yield list(keys)


def small_rows():
    """All shapes of up to five keys."""
    for many in range(6):
        yield from shapes(many)


def runs_of(lengths):
    """Keys in rising runs of these lengths, which interleave."""
    return [place * 1000 // length for length in lengths for place in range(length)]


def stretches_of(numbers, many, longest):
    """Keys in stretches that rise, fall, and are equal."""
    keys = []
    while len(keys) < many:
        base, step = numbers.randrange(1000), numbers.choice([-1, 0, 1, 1, 2])
        keys += [base + step * place // 2 for place in range(numbers.randrange(1, longest))]
    return keys[:many]


def large_rows():
    """Rows of up to 2,000 keys: rising, falling, with many equal ones, in stretches, with many pieces."""
    numbers = random.Random(71)
    for many in (0, 1, 2, 3, 12, 62, 63, 64, 65, 66, 127, 128, 129, 400, 2000):
        yield list(range(many))
        yield list(range(many, 0, -1))
        yield [5] * many
        yield [-place // 3 for place in range(many)]
        yield [numbers.randrange(3) for _ in range(many)]
        yield [numbers.randrange(10 * many + 1) for _ in range(many)]
        yield stretches_of(numbers, many, 30)
        yield stretches_of(numbers, many, 300)
        yield [place * 37 % 101 + place // 50 for place in range(many)]
        yield sorted(numbers.randrange(many + 1) for _ in range(many - many // 9)) + [0] * (many // 9)
    yield runs_of(SHORT_THIRD)
    yield runs_of(SHORT_THIRD)[::-1]
    yield runs_of([40, 70, 33, 100, 64, 64, 500, 300, 200, 100, 90, 80, 70, 60, 50])
    yield [10 ** 5000, -10 ** 5000, 10 ** 5000 + 1, 0, 10 ** 5000]
