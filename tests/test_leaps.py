import bisect
import itertools
import random
import unittest

from askedorder.errors import InvalidKeys, InvalidNumber
from askedorder.leaps import before, behind, leap_places, most_leap, total_leap
from tests.reference_sort import gallop_left, gallop_right
from tests.values import HUGE, Checking, int_within, is_int, keys_error, number_error

MOST = 10 ** 30


def noting(answer):
    """A function that notes for which places it is called, and the list of these."""
    asked = []

    def noted(place):
        asked.append(place)
        return answer(place)

    return noted, asked


def gallop_before(key, keys, hint):
    less, asked = noting(lambda place: keys[place] < key)
    return gallop_left(len(keys), hint, less), asked


def gallop_behind(key, keys, hint):
    less, asked = noting(lambda place: key < keys[place])
    return gallop_right(len(keys), hint, less), asked


def gallop_places(n, hint, place):
    less, asked = noting(lambda at: at < place)
    gallop_left(n, hint, less)
    return asked


row_error = number_error("n", int_within(1, MOST))


def key_error(value):
    return None if is_int(value) else InvalidNumber("key")


class BeforeAndBehind(Checking, unittest.TestCase):
    def test_one_key(self):
        self.assert_same([before(key, [5], 0) for key in (4, 5, 6)], [(0, [0]), (0, [0]), (1, [0])])
        self.assert_same([behind(key, [5], 0) for key in (4, 5, 6)], [(0, [0]), (1, [0]), (1, [0])])

    def test_hints_at_both_ends(self):
        keys = [10 * place for place in range(10)]
        self.assertEqual(before(45, keys, 0), (5, [0, 1, 3, 7, 5, 4]))
        self.assertEqual(before(45, keys, 9), (5, [9, 8, 6, 2, 4, 5]))
        self.assertEqual(behind(40, keys, 0), (5, [0, 1, 3, 7, 5, 4]))
        self.assertEqual(behind(40, keys, 9), (5, [9, 8, 6, 2, 4, 5]))

    def test_rows_that_rise_weakly(self):
        for many in range(1, 6):
            for keys in itertools.combinations_with_replacement(range(0, 8, 2), many):
                for hint, key in itertools.product(range(many), range(-1, 8)):
                    self.assertEqual(before(key, list(keys), hint), gallop_before(key, keys, hint))
                    self.assertEqual(behind(key, list(keys), hint), gallop_behind(key, keys, hint))
                    self.assertEqual(before(key, keys, hint)[0], bisect.bisect_left(keys, key))
                    self.assertEqual(behind(key, keys, hint)[0], bisect.bisect_right(keys, key))

    def test_rows_that_do_not_rise(self):
        for many in range(1, 7):
            for keys in itertools.product((0, 2), repeat=many):
                for hint in range(many):
                    self.assertEqual(before(1, keys, hint), gallop_before(1, keys, hint))
                    self.assertEqual(behind(1, keys, hint), gallop_behind(1, keys, hint))

    def test_equal_keys(self):
        self.assertEqual([before(3, [3] * 20, hint)[0] for hint in range(20)], [0] * 20)
        self.assertEqual([behind(3, [3] * 20, hint)[0] for hint in range(20)], [20] * 20)

    def test_long_rows(self):
        numbers = random.Random(9)
        for rising in (True, False):
            for many in (64, 500, 2000):
                keys = [numbers.randrange(many // 2) for _ in range(many)]
                keys = sorted(keys) if rising else keys
                for hint in (0, 1, many // 2, many - 2, many - 1):
                    for key in (-1, 0, many // 4, many // 3, many // 2, many):
                        self.assertEqual(before(key, keys, hint), gallop_before(key, keys, hint))
                        self.assertEqual(behind(key, keys, hint), gallop_behind(key, keys, hint))

    def test_no_place_is_asked_twice(self):
        for many in range(1, 9):
            for keys in itertools.product((0, 2), repeat=many):
                for hint in range(many):
                    for found in (before(1, keys, hint), behind(1, keys, hint)):
                        self.assertEqual(len(set(found[1])), len(found[1]))
                        self.assertTrue(0 <= found[0] <= many)

    def test_integers_of_any_size(self):
        self.assertEqual(before(HUGE, [-HUGE, HUGE - 1, HUGE, HUGE + 1], 0)[0], 2)
        self.assertEqual(behind(HUGE, [-HUGE, HUGE - 1, HUGE, HUGE + 1], 3)[0], 3)

    def test_arguments(self):
        args = [5, [1, 3, 5, 5, 7], 2]
        for call in (before, behind):
            self.assert_pure(call, *args)
            self.assert_rejected(call, args, 0, key_error, [[5], {5: 5}])
            self.assert_rejected(call, args, 1, lambda keys: keys_error(keys) or (
                InvalidNumber("hint") if len(keys) < 3 else None), [[0] * 2001, [1, 2, []], (1, True)])
            self.assert_rejected(call, args, 2, number_error("hint", int_within(0, 4)), [5, [1]])
            for hint in (0, -1, 1, None):
                self.assert_raises(InvalidNumber("hint"), call, 5, [], hint)
            self.assert_raises(InvalidNumber("key"), call, True, None, None)
            self.assert_raises(InvalidKeys(-1), call, 1, {}, None)


class LeapPlaces(Checking, unittest.TestCase):
    def test_against_before_and_behind(self):
        for n in range(1, 25):
            for hint in range(n):
                for place in range(n + 1):
                    keys = [0] * place + [2] * (n - place)
                    found = leap_places(n, hint, place)
                    self.assert_same((place, found), before(1, keys, hint))
                    self.assert_same((place, found), behind(1, keys, hint))

    def test_keys_that_are_equal_to_it(self):
        for n in range(1, 8):
            for hint, low, high in itertools.product(range(n), range(n + 1), range(n + 1)):
                if low <= high:
                    keys = [0] * low + [1] * (high - low) + [2] * (n - high)
                    self.assertEqual(before(1, keys, hint), (low, leap_places(n, hint, low)))
                    self.assertEqual(behind(1, keys, hint), (high, leap_places(n, hint, high)))

    def test_great_rows(self):
        numbers = random.Random(10)
        for size in (10 ** 9, 2 ** 70 - 1, 2 ** 70, MOST):
            hints = [0, 1, size // 3, size - 2, size - 1, numbers.randrange(size)]
            for hint in hints:
                for place in (0, 1, hint, hint + 1, size // 2, size - 1, size, numbers.randrange(size)):
                    found = leap_places(size, hint, place)
                    self.assertEqual(found, gallop_places(size, hint, place))
                    self.assertEqual(len(set(found)), len(found))
                    self.assertLess(len(found), 210)

    def test_near_the_hint_few_are_asked(self):
        self.assertEqual(leap_places(MOST, 0, 0), [0])
        self.assertEqual(leap_places(MOST, MOST - 1, MOST), [MOST - 1])
        self.assertEqual(leap_places(MOST, 10 ** 29, 10 ** 29), [10 ** 29, 10 ** 29 - 1])
        self.assertEqual(leap_places(MOST, 10 ** 29, 10 ** 29 + 1), [10 ** 29, 10 ** 29 + 1])

    def test_arguments(self):
        args = [9, 4, 7]
        self.assert_pure(leap_places, *args)
        self.assert_rejected(leap_places, args, 0, row_error, [MOST + 1, [9]])
        self.assert_rejected(leap_places, args, 1, number_error("hint", int_within(0, 8)), [9])
        self.assert_rejected(leap_places, args, 2, number_error("place", int_within(0, 9)), [10])


class MostAndTotal(Checking, unittest.TestCase):
    def test_against_the_places(self):
        for n in range(1, 70):
            for hint in range(n):
                numbers = [len(leap_places(n, hint, place)) for place in range(n + 1)]
                most = max(numbers)
                self.assert_same(most_leap(n, hint), (most, numbers.index(most)))
                self.assert_same(total_leap(n, hint), sum(numbers))

    def test_longer_rows(self):
        for n in (127, 128, 129, 500, 1023):
            for hint in (0, 1, 2, n // 3, n // 2, n - 3, n - 2, n - 1):
                numbers = [len(leap_places(n, hint, place)) for place in range(n + 1)]
                most = max(numbers)
                self.assertEqual(most_leap(n, hint), (most, numbers.index(most)))
                self.assertEqual(total_leap(n, hint), sum(numbers))

    def test_great_rows(self):
        # From the hint 0, the places from 2 ** k to 2 ** (k + 1) - 1 take k + 2
        # steps, and k more halves each; 0 and 1 are found by 1 and 2 places.
        for power in (20, 60, 99):
            n = 2 ** power - 1
            total = 1 + sum(2 ** k * (2 * k + 2) for k in range(power))
            # The last step is not asked: the row ends there.
            total -= 2 ** (power - 1)
            self.assertEqual(total_leap(n, 0), total)
            self.assertEqual(total_leap(n, n - 1), total)
            self.assertEqual(most_leap(n, 0), (2 * power - 1, 2 ** (power - 1)))
        for n, hint in [(MOST, 0), (MOST, 7), (MOST, MOST // 3), (MOST, MOST - 1), (2 ** 99 + 1, 2 ** 98)]:
            most, place = most_leap(n, hint)
            self.assertEqual(len(leap_places(n, hint, place)), most)
            for other in (0, 1, n // 2, n - 1, n, place - 1, place + 1, hint, hint + 1):
                if 0 <= other <= n:
                    number = len(leap_places(n, hint, other))
                    self.assertTrue(number < most or number == most and other >= place)
            self.assertTrue(n + 1 <= total_leap(n, hint) <= (n + 1) * most)

    def test_turned_about(self):
        # A leap in a row that is turned about asks the same, low places being those that are not.
        for n, hint in [(MOST, 5), (MOST - 1, MOST // 7), (12345, 678)]:
            self.assertEqual(most_leap(n, hint)[0], most_leap(n, n - 1 - hint)[0])

    def test_arguments(self):
        for call in (most_leap, total_leap):
            self.assert_pure(call, 9, 4)
            self.assert_rejected(call, [9, 4], 0, row_error, [MOST + 1, [9]])
            self.assert_rejected(call, [9, 4], 1, number_error("hint", int_within(0, 8)), [9])
            self.assert_raises(InvalidNumber("hint"), call, 1, 1)


if __name__ == "__main__":
    unittest.main()
