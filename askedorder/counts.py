"""How many questions a sort asks."""

from askedorder.asking import ask_honestly
from askedorder.checks import check_lengths, check_number
from askedorder.halving import most_of_halving
from askedorder.listsort import ListSort
from askedorder.ordersums import sum_over_orders
from askedorder.shapes import all_shapes

MOST_ITEMS = 63
MOST_SPREAD = 6
MOST_STRETCHES = 300
LONGEST_STRETCH = 10 ** 18


def fewest(many):
    """Returns how many questions a sort asks at least."""
    _check_many(many)
    return max(many - 1, 0)


def most(many):
    """Returns how many questions a sort asks at most."""
    _check_many(many)
    if many < 3:
        return fewest(many)
    # Two items fall, and the third one stands between them, which takes four
    # questions; each item from the third one on is then placed at index 0 or 1.
    return 4 + sum([most_of_halving(index) for index in range(2, many)])


def fewest_keys(many):
    """Returns keys with which a sort asks as few questions as it can."""
    _check_many(many)
    return list(range(many))


def most_keys(many):
    """Returns keys with which a sort asks as many questions as it can."""
    _check_many(many)
    return [2, 0, 1, *[-index for index in range(3, many)]][:many]


def count_of_falling(lengths):
    """Returns how many questions the sort of stretches of equal keys asks that fall from each to the next."""
    check_lengths(lengths, 1, MOST_STRETCHES, LONGEST_STRETCH)
    first = lengths[0]
    if len(lengths) == 1:
        return first - 1
    # Equal items ahead of the fall are asked about once, and then whether all
    # of them are equal; behind the fall each equal one is asked about twice.
    ahead = 0 if first == 1 else first
    return ahead + sum([2 * length - 1 for length in lengths[1:]])


def sum_of(many):
    """Returns how many questions the sorts of all orders of different keys ask together."""
    _check_many(many)
    return sum_over_orders(many)


def spread(many):
    """Returns for each number of questions of how many shapes it is asked, as tuples (count, number)."""
    check_number("many", many, 0, MOST_SPREAD)
    numbers = {}
    for keys in all_shapes(many):
        sort = ListSort(many, False)
        ask_honestly(sort, keys)
        count = len(sort.log)
        numbers[count] = numbers.get(count, 0) + 1
    return [(count, numbers[count]) for count in sorted(numbers)]


def _check_many(many):
    check_number("many", many, 0, MOST_ITEMS)
