import itertools
import unittest

from askedorder.errors import InvalidKeys, InvalidNumber, InvalidOrder, InvalidQuestion
from askedorder.rows import honest, is_order, stable_order
from tests.values import HUGE, Raising, first_index, is_int, is_keys, odd_values


def slow_stable(keys, reverse):
    """The stable order by its definition: each item is put behind all that do not follow it."""
    order = []
    for item, key in enumerate(keys):
        at = len(order)
        while at > 0 and (keys[order[at - 1]] < key if reverse else keys[order[at - 1]] > key):
            at -= 1
        order.insert(at, item)
    return order


class Honest(Raising, unittest.TestCase):
    def test_example(self):
        self.assertEqual([honest([3, 1, 2], (1, 2)), honest([3, 1, 2], (0, 2))], [True, False])

    def test_every_pair(self):
        keys = (4, -1, 4, 0)
        for i, j in itertools.permutations(range(4), 2):
            self.assertIs(honest(keys, (i, j)), keys[i] < keys[j])
            self.assertIs(honest(list(keys), (i, j)), keys[i] < keys[j])

    def test_equal_keys_are_not_less(self):
        self.assertIs(honest([7, 7], (0, 1)), False)
        self.assertIs(honest([7, 7], (1, 0)), False)

    def test_integers_of_any_size(self):
        self.assertIs(honest([HUGE, HUGE + 1, -HUGE], (0, 1)), True)
        self.assertIs(honest([HUGE, HUGE + 1, -HUGE], (1, 0)), False)
        self.assertIs(honest([HUGE, HUGE + 1, -HUGE], (2, 0)), True)

    def test_by_keyword(self):
        self.assertIs(honest(question=(1, 0), keys=[2, 1]), True)
        self.assertIs(honest([2, 1], question=(0, 1)), False)

    def test_most_keys(self):
        keys = list(range(2000))
        self.assertIs(honest(keys, (1998, 1999)), True)
        self.assert_raises(InvalidKeys(-1), honest, keys + [0], (0, 1))
        self.assert_raises(InvalidQuestion((0, 2000)), honest, keys, (0, 2000))

    def test_wrong_keys(self):
        for keys in odd_values():
            if not is_keys(keys):
                index = first_index(keys, lambda key: not is_int(key)) if type(keys) in (list, tuple) else -1
                self.assert_raises(InvalidKeys(index), honest, keys, (0, 1))

    def test_wrong_questions(self):
        for question in odd_values():
            if question not in ((0, 1), (1, 0)) or type(question) is not tuple:
                self.assert_raises(InvalidQuestion(question), honest, [1, 2, 3], question)

    def test_wrong_entries_of_questions(self):
        for entry in odd_values():
            if not (is_int(entry) and entry in (0, 1, 2)):
                self.assert_raises(InvalidQuestion((entry, 1)), honest, [1, 2, 3], (entry, 1))
                self.assert_raises(InvalidQuestion((1, entry)), honest, [1, 2, 3], (1, entry))

    def test_questions_that_are_close(self):
        for question in [[0, 1], (0,), (0, 1, 2), (0, 0), (1, 1), (-1, 0), (0, -1), (3, 0), (0, 3), (True, 0), (0, True)]:
            self.assert_raises(InvalidQuestion(question), honest, [5, 6, 7], question)

    def test_few_keys_have_no_question(self):
        for question in [(0, 1), (0, 0), (1, 0)]:
            self.assert_raises(InvalidQuestion(question), honest, [], question)
            self.assert_raises(InvalidQuestion(question), honest, [1], question)

    def test_the_first_wrong_argument_decides(self):
        self.assert_raises(InvalidKeys(1), honest, [1, True], (0, 0))
        self.assert_raises(InvalidKeys(-1), honest, None, None)
        self.assert_raises(InvalidKeys(-1), honest, question=None, keys=None)


class StableOrder(Raising, unittest.TestCase):
    def test_example(self):
        found = [stable_order([2, 1, 2, 1]), stable_order([2, 1, 2, 1], reverse=True)]
        self.assertEqual(found, [[1, 3, 0, 2], [0, 2, 1, 3]])

    def test_none_and_one(self):
        for reverse in (False, True):
            self.assertEqual(stable_order([], reverse=reverse), [])
            self.assertEqual(stable_order((), reverse=reverse), [])
            self.assertEqual(stable_order([5], reverse=reverse), [0])

    def test_by_its_definition(self):
        for many in range(6):
            for keys in itertools.product(range(-1, 3), repeat=many):
                self.assertEqual(stable_order(keys), slow_stable(keys, False))
                self.assertEqual(stable_order(list(keys), reverse=True), slow_stable(keys, True))

    def test_integers_of_any_size(self):
        keys = [HUGE, -HUGE, HUGE + 1, 0, HUGE]
        self.assertEqual(stable_order(keys), [1, 3, 0, 4, 2])
        self.assertEqual(stable_order(keys, reverse=True), [2, 0, 4, 3, 1])

    def test_most_keys(self):
        keys = [place * 7 % 10 for place in range(2000)]
        self.assertEqual(stable_order(keys), slow_stable(keys, False))
        self.assertEqual(stable_order(keys, reverse=True), slow_stable(keys, True))
        self.assert_raises(InvalidKeys(-1), stable_order, keys + [1])

    def test_returns_a_new_list_and_changes_nothing(self):
        keys = [2, 1, 2]
        found = stable_order(keys)
        self.assertIs(type(found), list)
        found.clear()
        self.assertEqual(stable_order(keys), [1, 0, 2])
        self.assertEqual(keys, [2, 1, 2])

    def test_by_keyword(self):
        self.assertEqual(stable_order(reverse=True, keys=(1, 2)), [1, 0])
        with self.assertRaises(TypeError):
            stable_order([1, 2], True)

    def test_wrong_keys(self):
        for keys in odd_values():
            if not is_keys(keys):
                index = first_index(keys, lambda key: not is_int(key)) if type(keys) in (list, tuple) else -1
                self.assert_raises(InvalidKeys(index), stable_order, keys)
                self.assert_raises(InvalidKeys(index), stable_order, keys, reverse=None)

    def test_wrong_entries(self):
        for entry in odd_values():
            if not is_int(entry):
                self.assert_raises(InvalidKeys(2), stable_order, [1, 2, entry, None])
                self.assert_raises(InvalidKeys(0), stable_order, (entry, 2, entry))

    def test_wrong_reverse(self):
        for reverse in odd_values():
            if type(reverse) is not bool:
                self.assert_raises(InvalidNumber("reverse"), stable_order, [1, 2], reverse=reverse)
                self.assert_raises(InvalidNumber("reverse"), stable_order, [], reverse=reverse)


class IsOrder(Raising, unittest.TestCase):
    def test_example(self):
        self.assertIs(is_order([2, 1, 2, 1], [3, 1, 0, 2]), False)

    def test_every_order(self):
        for keys in [(), (1,), (2, 2), (2, 1, 2, 1), (0, 0, 0, 1), (3, 2, 1, 0), (0, 1, 2, 3), (5, 5, 5, 5)]:
            for reverse in (False, True):
                right = slow_stable(keys, reverse)
                for order in itertools.permutations(range(len(keys))):
                    self.assertIs(is_order(keys, order, reverse=reverse), list(order) == right)
                    self.assertIs(is_order(list(keys), list(order), reverse=reverse), list(order) == right)

    def test_without_reverse_keys_rise(self):
        self.assertIs(is_order([1, 2], [0, 1]), True)
        self.assertIs(is_order([1, 2], (1, 0)), False)

    def test_by_keyword(self):
        self.assertIs(is_order(reverse=True, order=(1, 0), keys=[1, 2]), True)
        with self.assertRaises(TypeError):
            is_order([1, 2], [0, 1], False)

    def test_most_keys(self):
        keys = [-place for place in range(2000)]
        order = list(range(1999, -1, -1))
        self.assertIs(is_order(keys, order), True)
        self.assertIs(is_order(keys, order, reverse=True), False)
        self.assert_raises(InvalidKeys(-1), is_order, keys + [1], order)
        self.assert_raises(InvalidOrder(-1), is_order, keys, order + [2000])

    def test_changes_nothing(self):
        keys, order = [2, 1, 2], [1, 0, 2]
        is_order(keys, order)
        self.assertEqual((keys, order), ([2, 1, 2], [1, 0, 2]))

    def test_wrong_keys(self):
        for keys in odd_values():
            if not is_keys(keys):
                index = first_index(keys, lambda key: not is_int(key)) if type(keys) in (list, tuple) else -1
                self.assert_raises(InvalidKeys(index), is_order, keys, [], reverse=0)

    def test_no_orders(self):
        for order in odd_values():
            if type(order) not in (list, tuple) or len(order) != 2:
                self.assert_raises(InvalidOrder(-1), is_order, [1, 2], order, reverse=None)
        self.assert_raises(InvalidOrder(-1), is_order, [], [0])
        self.assert_raises(InvalidOrder(-1), is_order, [1, 2, 3], [0, True])

    def test_wrong_entries(self):
        for entry in odd_values():
            if not (is_int(entry) and entry in (0, 1, 2)):
                self.assert_raises(InvalidOrder(1), is_order, [1, 2, 3], [0, entry, 1])
                self.assert_raises(InvalidOrder(0), is_order, (1, 2, 3), (entry, entry, 9))

    def test_entries_that_stand_twice(self):
        self.assert_raises(InvalidOrder(1), is_order, [1, 2, 3], [1, 1, 1])
        self.assert_raises(InvalidOrder(2), is_order, [1, 2, 3], [1, 2, 1])
        self.assert_raises(InvalidOrder(2), is_order, [1, 2, 3], (0, 2, 0))
        self.assert_raises(InvalidOrder(1), is_order, [1, 2, 3], (0, 3, 0))
        self.assert_raises(InvalidOrder(1), is_order, [1, 2, 3], (0, -1, 2))

    def test_wrong_reverse(self):
        for reverse in odd_values():
            if type(reverse) is not bool:
                self.assert_raises(InvalidNumber("reverse"), is_order, [1, 2], [1, 0], reverse=reverse)

    def test_the_first_wrong_argument_decides(self):
        self.assert_raises(InvalidKeys(0), is_order, [None], None, reverse=None)
        self.assert_raises(InvalidOrder(-1), is_order, [1], None, reverse=None)
        self.assert_raises(InvalidOrder(0), is_order, [1], [1], reverse=None)


if __name__ == "__main__":
    unittest.main()
