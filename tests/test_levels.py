import fractions
import functools
import itertools
import random
import unittest

from askedorder.errors import InvalidLengths, InvalidNumber, Mismatch, TooLarge
from askedorder.levels import (
    cost, depth, first_unlike, is_way, least_cost, least_way, level, levels, merges, rounds, stack,
)
from tests.reference_sort import merge_pieces, powerloop
from tests.values import HUGE, Checking, int_within, lengths_error, number_error, odd_values

WRONG_LENGTHS = [[], (), [1] * 201, [0], [1, 0], [1, True], [2, -1, 0], [None], [1, [], 0], "12", {1: 1}, [0] * 201]


def error_of_lengths(lengths):
    return lengths_error(lengths, 1, 200)


def few_lengths():
    for many in range(1, 6):
        for lengths in itertools.product((1, 2, 3, 5), repeat=many):
            yield list(lengths)


def many_lengths():
    numbers = random.Random(15)
    for many in (1, 2, 3, 7, 20, 64, 199, 200):
        for spread in (1, 2, 10, 10 ** 6, 10 ** 40):
            yield [numbers.randrange(spread) + 1 for _ in range(many)]
        yield [2 ** place for place in range(many)]
        yield [2 ** place for place in range(many)][::-1]
        yield [1] * (many - 1) + [10 ** 300]
        yield [10 ** 300] + [1] * (many - 1)


def all_lengths():
    yield from few_lengths()
    yield from many_lengths()
    yield [HUGE]
    yield [HUGE, 1, HUGE, HUGE - 1, 5]
    yield [1, HUGE, 1, 1]


def borders(lengths):
    start = 0
    for first, second in itertools.pairwise(lengths):
        yield start, first, second, sum(lengths)
        start += first


def binary_figure(start, first, second, whole):
    """The first figure in which both middles, as parts of the whole, are unlike."""
    one = fractions.Fraction(2 * start + first, 2 * whole)
    other = fractions.Fraction(2 * start + 2 * first + second, 2 * whole)
    count = 0
    while int(one) == int(other):
        one, other = 2 * (one - int(one)), 2 * (other - int(other))
        count += 1
    return count


def all_ways(lengths):
    """All ways of a few pieces."""
    if len(lengths) == 1:
        yield []
    for place in range(len(lengths) - 1):
        join = (sum(lengths[:place]), lengths[place], lengths[place + 1])
        joined = [*lengths[:place], lengths[place] + lengths[place + 1], *lengths[place + 2:]]
        for way in all_ways(joined):
            yield [join, *way]


def cost_of(way):
    return sum(first + second for _, first, second in way)


@functools.cache
def told_way(lengths):
    """(cost, way) by the words of the document, with the places counted from 0."""
    if len(lengths) == 1:
        return 0, ()
    cuts = [told_way(lengths[:cut])[0] + told_way(lengths[cut:])[0] for cut in range(1, len(lengths))]
    cut = cuts.index(min(cuts)) + 1
    ahead, behind = sum(lengths[:cut]), sum(lengths[cut:])
    moved = tuple((start + ahead, first, second) for start, first, second in told_way(lengths[cut:])[1])
    return min(cuts) + ahead + behind, (*told_way(lengths[:cut])[1], *moved, (0, ahead, behind))


class Level(Checking, unittest.TestCase):
    def test_two_halves(self):
        for half in (1, 2, 5, 10 ** 9, HUGE):
            self.assert_same(level(0, half, half, 2 * half), 1)

    def test_quarters(self):
        self.assertEqual([level(start, 4, 4, 16) for start in (0, 4, 8)], [2, 1, 2])
        self.assertEqual([level(start, 1, 1, 8) for start in range(7)], [3, 2, 3, 1, 3, 2, 3])

    def test_a_middle_on_the_border_of_two_parts(self):
        # A middle that is just at a half belongs to the latter half.
        self.assertEqual([level(3, 4, 3, 10), level(0, 3, 4, 10), level(0, 2, 6, 10)], [2, 1, 1])

    def test_pieces_that_do_not_fill_the_row(self):
        self.assertEqual(level(0, 1, 1, 10 ** 6), powerloop(0, 1, 1, 10 ** 6))
        self.assertEqual(level(0, 1, 1, 2 ** 200), 200)
        self.assertEqual(level(2 ** 199 - 1, 1, 1, 2 ** 200), 1)

    def test_all_small_pieces(self):
        for whole in range(2, 20):
            for start, first, second in itertools.product(range(whole), range(1, whole), range(1, whole)):
                if start + first + second <= whole:
                    expected = binary_figure(start, first, second, whole)
                    self.assertEqual(powerloop(start, first, second, whole), expected)
                    self.assert_same(level(start, first, second, whole), expected)

    def test_great_pieces(self):
        numbers = random.Random(16)
        for _ in range(2000):
            size = 2 ** numbers.randrange(1, 300)
            start, first, second, more = [numbers.randrange(numbers.choice([3, size])) for _ in range(4)]
            args = start, first + 1, second + 1, start + first + second + 2 + more
            self.assertEqual(level(*args), powerloop(*args))

    def test_integers_of_any_size(self):
        self.assertEqual(level(HUGE, 1, 1, 2 * HUGE), powerloop(HUGE, 1, 1, 2 * HUGE))
        self.assertEqual(level(0, 1, HUGE, HUGE + 1), powerloop(0, 1, HUGE, HUGE + 1))
        self.assertEqual(level(0, 1, 1, 2 ** 20000), 20000)

    def test_arguments(self):
        args = [5, 3, 2, 11]
        self.assert_pure(level, *args)
        self.assert_rejected(level, args, 0, number_error("start", int_within(0)), [-1, [5]])
        self.assert_rejected(level, args, 1, number_error("first", int_within(1)), [0])
        self.assert_rejected(level, args, 2, number_error("second", int_within(1)), [0])
        self.assert_rejected(level, args, 3, number_error("whole", int_within(10)), [9, 0, [11]])
        self.assertEqual(level(5, 3, 2, 10), 2)

    def test_the_whole_has_to_hold_both_pieces(self):
        for args in [(7, 3, 2, 11), (0, 1, 1, 1), (HUGE, 1, 1, HUGE + 1), (0, HUGE, 1, HUGE)]:
            self.assert_raises(InvalidNumber("whole"), level, *args)


class Levels(Checking, unittest.TestCase):
    def test_one_piece_has_no_border(self):
        self.assert_same(levels([1]), [])
        self.assert_same(levels((HUGE,)), [])

    def test_each_is_the_level_of_its_border(self):
        for lengths in all_lengths():
            self.assert_same(levels(lengths), [level(*border) for border in borders(lengths)])

    def test_against_the_reference(self):
        for lengths in itertools.chain(few_lengths(), list(many_lengths())[::3]):
            self.assertEqual(levels(lengths), [powerloop(*border) for border in borders(lengths)])

    def test_against_the_binary_figures_of_the_middles(self):
        for lengths in itertools.chain(few_lengths(), list(many_lengths())[::11]):
            self.assertEqual(levels(lengths), [binary_figure(*border) for border in borders(lengths)])


class StackAndDepth(Checking, unittest.TestCase):
    def test_one_piece(self):
        self.assert_same((stack([5]), depth([5])), ([[(0, 5, None)]], 1))

    def test_joins_keep_the_levels_of_the_other_borders(self):
        expected = [
            [(0, 1, None)],
            [(0, 1, 3), (1, 1, None)],
            [(0, 2, 2), (2, 1, None)],
            [(0, 2, 2), (2, 1, 3), (3, 1, None)],
            [(0, 4, 1), (4, 4, None)],
        ]
        self.assertEqual(levels([1, 1, 1, 1, 4]), [3, 2, 3, 1])
        self.assertEqual(stack([1, 1, 1, 1, 4]), expected)
        self.assertEqual(depth([1, 1, 1, 1, 4]), 3)

    def test_against_the_reference(self):
        for lengths in all_lengths():
            stacks, _, _ = merge_pieces(lengths)
            self.assert_same(stack(lengths), stacks)
            self.assert_same(depth(lengths), max(map(len, stacks)))

    def test_many_pieces_deep(self):
        # Each piece is half as long as the one ahead of it: none are joined.
        lengths = [2 ** place for place in range(199, -1, -1)]
        self.assertEqual(depth(lengths), 200)
        self.assertEqual(levels(lengths), list(range(1, 200)))
        self.assertEqual(depth(lengths[::-1]), 2)


class Merges(Checking, unittest.TestCase):
    def test_one_and_two(self):
        self.assert_same(merges([7]), ([], []))
        self.assert_same(merges([7, 8]), ([], [(0, 7, 8)]))

    def test_behind_the_last_piece_the_shorter_neighbour_goes_first(self):
        self.assertEqual(stack([1, 5, 1, 1, 2])[-1], [(0, 6, 1), (6, 1, 2), (7, 1, 3), (8, 2, None)])
        self.assertEqual(merges([1, 5, 1, 1, 2]), ([(0, 1, 5)], [(6, 1, 1), (6, 2, 2), (0, 6, 4)]))
        # Not if it is as long.
        self.assertEqual(stack([3, 1, 3])[-1], [(0, 3, 1), (3, 1, 2), (4, 3, None)])
        self.assertEqual(merges([3, 1, 3]), ([], [(3, 1, 3), (0, 3, 4)]))

    def test_against_the_reference(self):
        for lengths in all_lengths():
            _, amid, at_end = merge_pieces(lengths)
            self.assert_same(merges(lengths), (amid, at_end))

    def test_they_lead_from_stack_to_stack(self):
        for lengths in all_lengths():
            amid, at_end = merges(lengths)
            pieces = {}
            amid = amid[::-1]
            ends = list(itertools.accumulate(lengths))
            for place, stood in enumerate(stack(lengths)):
                start = ends[place] - lengths[place]
                # A join that makes room for a piece ends where that piece starts.
                while amid and sum(amid[-1]) == start:
                    self.join(pieces, amid.pop())
                pieces[start] = lengths[place]
                self.assertEqual(pieces, {at: length for at, length, _ in stood})
            self.assertEqual(amid, [])
            for join in at_end:
                self.join(pieces, join)
            self.assertEqual(pieces, {0: sum(lengths)})

    def join(self, pieces, join):
        start, first, second = join
        self.assertEqual((pieces[start], pieces.pop(start + first)), (first, second))
        pieces[start] = first + second


class CostAndRounds(Checking, unittest.TestCase):
    def test_one_piece(self):
        self.assert_same((cost([9]), rounds([9])), (0, [0]))

    def test_against_the_joins(self):
        for lengths in all_lengths():
            amid, at_end = merges(lengths)
            self.assert_same(cost(lengths), cost_of(amid + at_end))
            starts = [0, *itertools.accumulate(lengths)]
            expected = []
            for start, end in itertools.pairwise(starts):
                parts = [join for join in amid + at_end if join[0] <= start and end <= sum(join)]
                expected.append(len(parts))
            self.assert_same(rounds(lengths), expected)

    def test_joins_tell_how_many_pieces_there_are(self):
        for lengths in all_lengths():
            amid, at_end = merges(lengths)
            self.assertEqual(len(amid) + len(at_end), len(lengths) - 1)
            self.assertEqual(len(at_end), len(stack(lengths)[-1]) - 1)


class Least(Checking, unittest.TestCase):
    def test_one_and_two(self):
        self.assert_same((least_cost([4]), least_way([4])), (0, []))
        self.assert_same((least_cost([4, 5]), least_way([4, 5])), (9, [(0, 4, 5)]))

    def test_the_first_cut_is_taken(self):
        self.assertEqual(least_way([1, 1, 1]), [(1, 1, 1), (0, 1, 2)])
        self.assertEqual(least_way([1, 1, 1, 1]), [(0, 1, 1), (2, 1, 1), (0, 2, 2)])
        self.assertEqual(least_way([1, 1, 1, 1, 1])[-1], (0, 2, 3))

    def test_against_all_ways(self):
        for lengths in itertools.chain(few_lengths(), [[4, 1, 1, 3, 9, 2], [1, 2, 3, 4, 5, 6], [2, 7, 1, 8, 2, 8, 1]]):
            ways = list(all_ways(lengths))
            least = min(map(cost_of, ways))
            self.assert_same(least_cost(lengths), least)
            way = least_way(lengths)
            self.assertIn(way, ways)
            self.assertEqual(cost_of(way), least)
            self.assertTrue(is_way(lengths, way))

    def test_against_the_words(self):
        numbers = random.Random(17)
        for lengths in [*few_lengths(), *[[numbers.randrange(1, 9) for _ in range(9)] for _ in range(50)]]:
            least, way = told_way(tuple(lengths))
            self.assert_same((least_cost(lengths), least_way(lengths)), (least, list(way)))

    def test_forty_pieces_and_one_more(self):
        numbers = random.Random(18)
        for lengths in ([1] * 40, [numbers.randrange(1, 100) for _ in range(40)], [2 ** k for k in range(40)], [HUGE] * 40):
            way = least_way(lengths)
            self.assertTrue(is_way(lengths, way))
            self.assertEqual(cost_of(way), least_cost(lengths))
            self.assertLessEqual(least_cost(lengths), cost(lengths))
            for call in (least_cost, least_way):
                self.assert_raises(TooLarge(40), call, [*lengths, 1])
                self.assert_raises(TooLarge(40), call, [1] * 200)
                self.assert_raises(InvalidLengths(40), call, [*lengths, 0])
                self.assert_raises(InvalidLengths(-1), call, [1] * 201)
        self.assertEqual(least_cost([1] * 32), 32 * 5)
        self.assertEqual(least_cost([2 ** k for k in range(40)]), sum(2 ** (k + 1) - 1 for k in range(1, 40)))


class Ways(Checking, unittest.TestCase):
    def test_all_rows_of_joins(self):
        for lengths in ([1], [1, 2], [2, 2], [1, 1, 2], [2, 1, 1], [1, 1, 1]):
            ways = list(all_ways(lengths))
            joins = list(itertools.product(range(-1, 4), range(4), range(4)))
            for many in range(3):
                for row in itertools.product(joins, repeat=many):
                    self.assert_same(is_way(lengths, row), list(row) in ways)

    def test_all_ways_are_ways(self):
        for lengths in few_lengths():
            for way in all_ways(lengths):
                self.assertIs(is_way(lengths, way), True)
                self.assertIs(is_way(tuple(lengths), tuple(way)), True)

    def test_rows_that_are_close(self):
        lengths = [2, 3, 5, 7]
        way = [(0, 2, 3), (5, 5, 7), (0, 5, 12)]
        self.assertIs(is_way(lengths, way), True)
        for row in (
            way[:2], way[1:], [], [*way, way[-1]], [*way, (0, 17, 1)], way[::-1], [way[0], way[2], way[1]],
            [list(join) for join in way], [way[0], list(way[1]), way[2]], [way[0], way[1], (0, 5, 12, 0)],
            [way[0], way[1], (0, 5)], [way[0], way[1], None], [(0, 2, 5), *way[1:]], [(0, 5, 5), *way[1:]],
            [(2, 3, 5), (5, 5, 7), (0, 2, 15)], [(0, 2, 3), (2, 3, 5), (0, 5, 12)], [(False, 2, 3), *way[1:]],
            [(2, 3, 5), (2, 8, 7), (0, 2, True)], [way[0], way[1], ([], 5, 12)], [way[0], way[1], (0, {}, 12)],
            {0: way[0]}, {place: join for place, join in enumerate(way)}, iter(way), set(way), "way", (way,),
        ):
            self.assertIs(is_way(lengths, row), False)
        self.assertIs(is_way([1, 1], [(False, True, True)]), False)
        self.assertIs(is_way([1, 1], [(0, True, 1)]), False)
        self.assertIs(is_way([1, 1], [(0, 1, True)]), False)

    def test_any_object(self):
        for value in odd_values():
            self.assertIs(is_way([3], value), type(value) in (list, tuple) and len(value) == 0)
            self.assertIs(is_way([1, 2], value), False)
            self.assertIs(is_way([1, 2], [value]), False)
            self.assertIs(is_way([1, 2], [(value, 1, 2)]), type(value) is int and value == 0)
            self.assertIs(is_way([1, 2], [(0, value, 2)]), type(value) is int and value == 1)
            self.assertIs(is_way([1, 2], [(0, 1, value)]), type(value) is int and value == 2)
            if type(value) not in (list, tuple) or value:
                self.assert_raises(Mismatch("joins"), first_unlike, [3], value)
            self.assert_raises(Mismatch("joins"), first_unlike, [1, 2], value)

    def test_the_way_of_the_sort(self):
        for lengths in all_lengths():
            amid, at_end = merges(lengths)
            self.assertIs(is_way(lengths, amid + at_end), True)
            self.assertIs(first_unlike(lengths, amid + at_end), None)
            self.assertIs(first_unlike(lengths, tuple(amid + at_end)), None)

    def test_other_ways(self):
        for lengths in itertools.chain(few_lengths(), [[1, 1, 1, 1, 1, 1], [5, 1, 2, 4, 1, 3]]):
            amid, at_end = merges(lengths)
            sort = amid + at_end
            for way in all_ways(lengths):
                expected = [place for place in range(len(way)) if way[place] != sort[place]]
                self.assert_same(first_unlike(lengths, way), expected[0] if expected else None)

    def test_what_is_no_way(self):
        for row in ([], [(0, 1, 2)], [(0, 1, 1), (2, 1, 1)], [(0, 1, 1), [0, 2, 1]], [(0, 1, 1), (0, 2, 1), (0, 3, 1)]):
            self.assert_raises(Mismatch("joins"), first_unlike, [1, 1, 1], row)

    def test_arguments(self):
        joins = [(0, 5, 3), (0, 8, 2)]
        for call in (is_way, first_unlike):
            self.assert_pure(call, [5, 3, 2], joins)
            self.assert_rejected(call, [[5, 3, 2], joins], 0, error_of_lengths, WRONG_LENGTHS)


class Lengths(Checking, unittest.TestCase):
    def test_arguments(self):
        for call in (levels, stack, depth, merges, cost, rounds, least_cost, least_way):
            self.assert_pure(call, [5, 3, 2, 9, 1, 1])
            self.assert_rejected(call, [[5]], 0, error_of_lengths, WRONG_LENGTHS)
            call([HUGE] * 3)
        for call in (levels, stack, depth, merges, cost, rounds):
            call([1] * 200)


class Facts(unittest.TestCase):
    def test_levels_on_the_stack_rise(self):
        for lengths in all_lengths():
            for stood in stack(lengths):
                found = [border for _, _, border in stood[:-1]]
                self.assertEqual(found, sorted(set(found)))

    def test_the_cost_is_all_lengths_times_their_rounds(self):
        for lengths in all_lengths():
            self.assertEqual(cost(lengths), sum(length * times for length, times in zip(lengths, rounds(lengths))))

    def test_multiplied_lengths_have_multiplied_joins(self):
        for lengths in all_lengths():
            for factor in (2, 3, 10 ** 30):
                multiplied = [factor * length for length in lengths]
                self.assertEqual(levels(multiplied), levels(lengths))
                expected = [[tuple(factor * number for number in join) for join in part] for part in merges(lengths)]
                self.assertEqual(merges(multiplied), tuple(expected))


if __name__ == "__main__":
    unittest.main()
