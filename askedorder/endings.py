"""How many rows of answers, of any kind, lead a sort of one piece just to its end.

Rows are counted by their number of answers, in lists: the entry at index k is
how many rows with k answers there are.
"""

from askedorder.halving import fewest_of_halving, long_ways_of_halving


def rows_to_the_end(many):
    """Returns how many rows of answers lead the sort of 0 to 63 items to its end, by their number of answers."""
    if many < 2:
        return [1]
    runs = _rows_of_runs(many)
    rows = []
    for index in range(2, many):
        rows = _product(_sum(rows, runs[index]), _rows_of_placing(index))
    return _sum(rows, runs[many])


def _rows_of_runs(many):
    """Returns a list of how many rows of answers lead to the end of a run, by its length, for two items or more.

    `falling` counts the rows that lead to a place in step 3 of finding a run,
    `rising_on` those that lead there in step 5.
    """
    runs = [[], []]
    falling = _one_row(1)
    rising_on = []
    for place in range(2, many):
        rising_on = _sum(_shifted(rising_on, 1), _shifted(falling, 2))
        # Step 2, at this place: the run ends there, or begins to fall.
        fallen = _one_row(place + 1)
        runs.append(_sum(fallen, _shifted(rising_on, 1)))
        falling = _sum(_product(falling, [0, 1, 1]), fallen)
    # At the end of the row the question about the next item is not asked.
    at_end = _sum(falling, _shifted(rising_on, 1))
    runs.append(_sum(_one_row(many - 1), at_end))
    return runs


def _rows_of_placing(index):
    """Returns how many rows of answers lead to a place for the item at an index."""
    fewest = fewest_of_halving(index)
    long_ways = long_ways_of_halving(index)
    return [0] * fewest + [index + 1 - long_ways, long_ways]


def _one_row(count):
    return _shifted([1], count)


def _shifted(rows, count):
    """Returns the numbers of rows with so many answers more."""
    return [0] * count + rows


def _sum(one, other):
    longer = max(len(one), len(other))
    pairs = zip(one + [0] * (longer - len(one)), other + [0] * (longer - len(other)))
    return [first + second for first, second in pairs]


def _product(one, other):
    """Returns the numbers of rows of which each has a row of the one kind, and then one of the other."""
    rows = [0] * (len(one) + len(other))
    for count, first in enumerate(one):
        for more, second in enumerate(other):
            rows[count + more] += first * second
    return rows
