import copy
import functools
import itertools
import random
import sys
import unittest
from unittest import mock

from askedorder import listsort
from askedorder.errors import (
    InvalidAnswer, InvalidKeys, InvalidNumber, Mismatch, NothingAsked, RowChanged, SortError, TooLarge,
)
from askedorder.lines import Line
from askedorder.live import Sorter
from askedorder.rows import stable_order
from tests.test_listsort import OldRunFinder
from tests.values import HUGE, Checking, is_int, keys_error, number_error, odd_values

PLACES = (0, 1, 2, 3, 4, 5, 99, HUGE, -1, -2, -3, -4, -5, -99, -HUGE)


def state_of(line):
    """All that a line tells."""
    on = line.depth() > 0
    return (
        line.shown(), line.depth(), line.wants(), line.asked(),
        line.standing() if on else None, line.is_changed() if on else None,
    )


def values_error(value):
    return keys_error(value, 0, 300)


def deeds_of(value=7, place=1):
    """Names of all methods that change what is shown, with arguments that are right for two values."""
    return [
        ("append", (value,)), ("insert", (place, value)), ("extend", ([value, 8],)), ("replace", ([value],)),
        ("pop", ()), ("pop", (0,)), ("remove", (1,)), ("clear", ()), ("turn", ()),
    ]


class Plain(Checking, unittest.TestCase):
    """A line that is not sorted."""

    def test_values(self):
        values = [3, 1, HUGE]
        line = Line(values)
        values.append(4)
        self.assertEqual(state_of(line), ([3, 1, HUGE], 0, None, [], None, None))
        line.shown().append(5)
        line.asked().append(5)
        self.assertEqual(state_of(line), ([3, 1, HUGE], 0, None, [], None, None))
        self.assertEqual(state_of(Line(values=(3, 1))), state_of(Line([3, 1])))

    def test_wrong_values(self):
        more = [[1, True], (0, None), [0] * 301, [True] * 301, [[1]]]
        self.assert_checked(Line, {"values": [1]}, {"values": values_error}, {"values": more})
        self.assertEqual(len(Line([0] * 300).shown()), 300)

    def test_no_sort_is_on(self):
        line = Line([1])
        for call in (line.fail, line.standing, line.is_changed):
            self.assert_raises(NothingAsked(0), call)
        for answer in (True, 1, None, [], "x"):
            self.assert_raises(NothingAsked(0), line.give, answer)
        self.assertEqual(state_of(line), state_of(Line([1])))

    def check_deed(self, values, name, args, expected, returned):
        line = Line(values)
        self.assertEqual((getattr(line, name)(*args), line.shown()), (returned, expected))

    def test_each_deed_is_that_of_a_list(self):
        for many in range(5):
            values = [5, 6, 5, 7][:many]
            for place in PLACES:
                inserted = list(values)
                inserted.insert(max(min(place, 99), -99), 9)
                self.check_deed(values, "insert", (place, 9), inserted, None)
                if -many <= place < many:
                    popped = list(values)
                    value = popped.pop(place)
                    self.check_deed(values, "pop", (place,), popped, value)
                else:
                    self.assert_raises(Mismatch("place"), Line(values).pop, place)
            if values:
                self.check_deed(values, "pop", (), values[:-1], values[-1])
            else:
                self.assert_raises(Mismatch("place"), Line([]).pop)
            for value in (5, 6, 7, 9):
                if value in values:
                    removed = list(values)
                    removed.remove(value)
                    self.check_deed(values, "remove", (value,), removed, None)
                else:
                    self.assert_raises(Mismatch("value"), Line(values).remove, value)
            self.check_deed(values, "append", (9,), values + [9], None)
            for others in ([], (), [9], (9, 8, 9)):
                self.check_deed(values, "extend", (others,), values + list(others), None)
                self.check_deed(values, "replace", (others,), list(others), None)
            self.check_deed(values, "clear", (), [], None)
            self.check_deed(values, "turn", (), values[::-1], None)

    def test_by_keyword(self):
        line = Line([1, 2])
        line.append(value=3)
        line.insert(value=0, place=0)
        line.extend(values=(4, 5))
        self.assertEqual(line.shown(), [0, 1, 2, 3, 4, 5])
        self.assertEqual(line.pop(place=-2), 4)
        line.remove(value=0)
        self.assertEqual(line.shown(), [1, 2, 3, 5])
        line.replace(values=[3])
        self.assertEqual(line.shown(), [3])

    def test_values_that_are_put_in_are_copied(self):
        line = Line([])
        for call in (line.extend, line.replace):
            values = [1, 2]
            call(values)
            values.append(3)
            self.assertEqual(line.shown(), [1, 2])
            line.turn()
            line.append(4)
            self.assertEqual(values, [1, 2, 3])
            line.clear()

    def test_too_many_values(self):
        for many in (0, 1, 299, 300):
            line = Line([5] * many)
            for name, args, more in (
                ("append", (1,), 1), ("insert", (0, 1), 1), ("extend", ([1] * 300,), 300), ("extend", ([1, 1],), 2),
                ("extend", ([],), 0), ("replace", ([1] * 300,), -many),
            ):
                other = line.copied()
                if many + more > 300:
                    self.assert_raises(TooLarge(300), getattr(other, name), *args)
                    self.assertEqual(other.shown(), line.shown())
                else:
                    getattr(other, name)(*args)

    def test_wrong_arguments(self):
        value_error = number_error("value", is_int)
        place_error = number_error("place", is_int)
        for many in (2, 300):
            for on in (False, True):
                line = Line([1] * many)
                if on:
                    line.begin()
                    line.extend([1] * many)
                ahead = state_of(line)
                more = {"values": [[1, True], [0] * 301, [[]]]}
                self.assert_checked(line.append, {"value": 1}, {"value": value_error})
                self.assert_checked(line.insert, {"place": 0, "value": 1}, {"place": place_error, "value": value_error})
                self.assert_checked(line.extend, {"values": []}, {"values": values_error}, more)
                self.assert_checked(line.replace, {"values": []}, {"values": values_error}, more)
                self.assert_checked(line.pop, {"place": 0}, {"place": place_error})
                self.assert_checked(line.remove, {"value": 1}, {"value": value_error})
                self.assert_raises(Mismatch("place"), line.pop, many)
                self.assert_raises(Mismatch("place"), line.pop, -many - 1)
                self.assert_raises(Mismatch("value"), line.remove, 2)
                errors = {
                    "reverse": number_error("reverse", lambda value: type(value) is bool),
                    "by": number_error("by", lambda value: type(value) is str and value in ("less", "key")),
                }
                more = {"by": ["Less", "less ", "", "keys", b"less", ["less"], ("key",)]}
                self.assert_checked(line.begin, {"reverse": False, "by": "key"}, errors, more)
                self.assertEqual(state_of(line), ahead)


class Sorts(Checking, unittest.TestCase):
    def test_by_less_against_a_sorter(self):
        numbers = random.Random(101)
        for many in (2, 3, 5, 20, 64, 150, 300):
            for reverse in (False, True):
                values = numbers.sample(range(10 * many), many)
                line = Line(values)
                self.assertIs(line.begin(reverse=reverse), None)
                sorter = Sorter(many, reverse=reverse)
                for count in itertools.count():
                    if sorter.wanted() is None:
                        break
                    if many < 64 or count % 20 == 0:
                        asked = [(("less", *question), answer) for question, answer in sorter.asked()]
                        standing = [values[item] for item in sorter.order()]
                        state = ([], 1, ("less", *sorter.wanted()), asked, standing, False)
                        self.assert_same(state_of(line), state)
                    self.assertEqual(line.wants(), ("less", *sorter.wanted()))
                    answer = numbers.random() < 0.4
                    sorter.reply(answer)
                    self.assertIs(line.give(answer), None)
                values = [values[item] for item in sorter.order()]
                self.assert_same(state_of(line), (values, 0, None, [], None, None))

    def test_by_key(self):
        numbers = random.Random(102)
        for many in (1, 2, 3, 7, 64, 300):
            for reverse in (False, True):
                values = numbers.sample(range(10 * many), many)
                keys = [numbers.randrange(many) * HUGE for _ in range(many)]
                line = Line(values)
                line.begin(by="key", reverse=reverse)
                for item, key in enumerate(keys):
                    asked = [(("key", at), keys[at]) for at in range(item)]
                    self.assertEqual(state_of(line), ([], 1, ("key", item), asked, values, False))
                    line.give(answer=key)
                values = [values[item] for item in stable_order(keys, reverse=reverse)]
                self.assertEqual(state_of(line), (values, 0, None, [], None, None))

    def test_sorts_that_want_nothing(self):
        for by, values in (("less", []), ("less", [4]), ("key", [])):
            for reverse in (False, True):
                line = Line(values)
                line.begin(by=by, reverse=reverse)
                self.assertEqual(state_of(line), state_of(Line(values)))
        line = Line([3, 1])
        line.begin()
        line.begin()
        line.begin(by="key")
        self.assertEqual((line.depth(), line.wants()), (1, ("less", 1, 0)))
        line.append(8)
        line.begin()
        self.assertEqual((line.depth(), line.shown()), (1, [8]))

    def test_by_less_is_the_default(self):
        line = Line([3, 1])
        line.begin(reverse=True)
        self.assertEqual(line.wants(), ("less", 0, 1))
        line.give(True)
        self.assertEqual(line.shown(), [1, 3])
        line.begin()
        self.assertEqual(line.wants(), ("less", 1, 0))
        with self.assertRaises(TypeError):
            line.begin(True)

    def test_wrong_answers(self):
        for by, is_right in (("less", lambda value: type(value) is bool), ("key", is_int)):
            line = Line([2, 1, 3])
            line.begin(by=by)
            line.append(9)
            line.give(False if by == "less" else 0)
            ahead = state_of(line)
            for value in odd_values():
                if not is_right(value):
                    self.assert_raises(InvalidAnswer(value), line.give, value)
                    self.assert_raises(InvalidAnswer(value), line.give, answer=value)
            self.assertEqual(state_of(line), ahead)

    def test_fail_at_each_question(self):
        numbers = random.Random(103)
        for many in (2, 3, 10, 100):
            for reverse in (False, True):
                values = list(range(100, 100 + many))
                line = Line(values)
                line.begin(reverse=reverse)
                sorter = Sorter(many, reverse=reverse)
                while line.depth():
                    failed = line.copied()
                    failed.append(1)
                    standing = [values[item] for item in sorter.order()]
                    self.assertEqual(failed.standing(), standing)
                    self.assertIs(failed.fail(), None)
                    self.assertEqual(state_of(failed), (standing, 0, None, [], None, None))
                    answer = numbers.random() < 0.4
                    line.give(answer)
                    sorter.reply(answer)

    def test_fail_at_each_key(self):
        values = [30, 10, 20]
        for count in range(3):
            line = Line(values)
            line.begin(by="key", reverse=True)
            for key in range(count):
                line.give(key)
            line.extend([1, 2])
            self.assertEqual((line.standing(), line.shown()), (values, [1, 2]))
            line.fail()
            self.assertEqual(state_of(line), (values, 0, None, [], None, None))


class Changes(Checking, unittest.TestCase):
    """Deeds while a sort is on."""

    def begun(self, by="less"):
        line = Line([5, 4])
        line.begin(by=by)
        return line

    def end(self, line):
        """Gives the last answer; returns how many values were thrown away, None if the sort was not changed."""
        try:
            while line.depth():
                line.give(True if line.wants()[0] == "less" else -line.wants()[1])
        except RowChanged as error:
            return error.count
        return None

    def test_what_changes_a_sort(self):
        for by in ("less", "key"):
            for deeds, changed in (
                ([("append", 7)], 1), ([("insert", 0, 7)], 1), ([("insert", -3, 7), ("insert", 9, 8)], 2),
                ([("extend", [7, 8])], 2), ([("replace", [7])], 1), ([("replace", [7, 8, 9]), ("pop",)], 2),
                ([("append", 7), ("pop",)], 0), ([("append", 7), ("clear",)], 0), ([("append", 7), ("remove", 7)], 0),
                ([("extend", [7]), ("replace", [])], 0), ([("append", 7), ("turn",)], 1),
                ([("extend", [])], None), ([("replace", ())], None), ([("clear",)], None), ([("turn",)], None),
                ([("extend", ()), ("turn",), ("clear",), ("replace", [])], None), ([], None),
            ):
                line = self.begun(by)
                for name, *args in deeds:
                    getattr(line, name)(*args)
                self.assertIs(line.is_changed(), changed is not None)
                self.assertEqual(len(line.shown()), changed or 0)
                if changed is None:
                    self.assertIs(self.end(line), None)
                else:
                    self.assertEqual(self.end(line), changed)
                # All that was to be done was done.
                self.assertEqual(state_of(line), ([4, 5], 0, None, [], None, None))

    def test_row_changed_has_its_count(self):
        line = self.begun()
        line.extend([1, 2, 3])
        self.assert_raises(RowChanged(3), line.give, True)
        self.assertEqual(state_of(line), state_of(Line([4, 5])))

    def test_calls_that_raise_change_no_sort(self):
        line = self.begun()
        for name, args in (
            ("append", (None,)), ("insert", (0, True)), ("insert", ("", 1)), ("extend", ([1, None],)), ("replace", (3,)),
            ("pop", ()), ("remove", (1,)), ("extend", ([1] * 301,)),
        ):
            with self.assertRaises(SortError):
                getattr(line, name)(*args)
        self.assertEqual(state_of(line), state_of(self.begun()))

    def test_too_many_values_do_not_change_a_sort(self):
        line = Line(list(range(300)))
        line.begin(by="key")
        for item in range(300):
            line.give(item)
        line.begin()
        line.extend([0] * 300)
        inner = line.copied()
        inner.begin(by="key")
        self.assert_raises(TooLarge(300), line.append, 1)
        self.assert_raises(TooLarge(300), line.insert, 0, 1)
        self.assert_raises(TooLarge(300), line.extend, [1])
        line.extend([])
        self.assertEqual(line.shown(), [0] * 300)
        # An inner sort shows its own values alone.
        inner.append(1)
        self.assertEqual(inner.shown(), [1])

    def test_deeds_upon_an_inner_result_with_300_values(self):
        line = Line([2, 1])
        line.begin()
        line.extend(list(range(300)))
        line.begin(by="key", reverse=True)
        for item in range(300):
            line.give(item)
        self.assertEqual(line.shown(), list(range(299, -1, -1)))
        self.assert_raises(TooLarge(300), line.append, 1)
        self.assert_raises(RowChanged(300), line.give, True)

    def test_fail_raises_no_row_changed(self):
        for by in ("less", "key"):
            line = self.begun(by)
            line.append(7)
            self.assertIs(line.fail(), None)
            self.assertEqual(state_of(line), state_of(Line([5, 4])))


class Inner(Checking, unittest.TestCase):
    """Sorts within sorts."""

    def test_each_is_changed_by_its_own_deeds_alone(self):
        line = Line([9, 8])
        line.begin()
        line.extend([3, 2, 1])
        line.begin(by="key")
        self.assertEqual(state_of(line), ([], 2, ("key", 0), [], [3, 2, 1], False))
        for key in (5, 4):
            line.give(key)
        line.give(3)
        self.assertEqual(state_of(line), ([1, 2, 3], 1, ("less", 1, 0), [], [9, 8], True))
        line.pop()
        line.begin()
        line.append(0)
        self.assert_raises(RowChanged(1), line.give, False)
        self.assertEqual((line.shown(), line.depth(), line.is_changed()), ([1, 2], 1, True))
        self.assert_raises(RowChanged(2), line.give, False)
        self.assertEqual(state_of(line), state_of(Line([9, 8])))

    def test_an_inner_sort_changes_no_outer_one(self):
        line = Line([9, 8, 7])
        line.begin()
        # Inner sorts of no values end at once.
        line.begin()
        line.begin(by="key")
        self.assertEqual((line.depth(), line.is_changed()), (1, False))
        line.give(True)
        line.fail()
        self.assertEqual(line.depth(), 0)
        line.begin()
        line.extend([4, 3])
        line.begin()
        self.assertIs(line.is_changed(), False)
        line.give(True)
        # What changed the outer sort was that values were put in ahead of the inner one.
        self.assertIs(line.is_changed(), True)

    def test_what_is_told_is_told_of_the_current_sort(self):
        line = Line([9, 8, 7])
        line.begin(by="key")
        line.give(4)
        line.extend([3, 2])
        line.begin(by="key", reverse=True)
        line.give(6)
        self.assertEqual(state_of(line), ([], 2, ("key", 1), [(("key", 0), 6)], [3, 2], False))
        line.append(5)
        line.append(4)
        line.begin()
        self.assertEqual(state_of(line), ([], 3, ("less", 1, 0), [], [5, 4], False))
        line.give(True)
        self.assertEqual(state_of(line), ([4, 5], 2, ("key", 1), [(("key", 0), 6)], [3, 2], True))
        line.fail()
        self.assertEqual(state_of(line), ([3, 2], 1, ("key", 1), [(("key", 0), 4)], [9, 8, 7], True))

    def test_what_is_returned_is_new(self):
        for by in ("less", "key"):
            line = Line([9, 8, 7])
            line.begin(by=by)
            line.give(True if by == "less" else 1)
            line.append(6)
            ahead = copy.deepcopy(state_of(line))
            for call in (line.shown, line.asked, line.standing):
                found = call()
                self.assertIs(type(found), list)
                self.assertGreater(len(found), 0)
                found.clear()
                self.assertEqual(state_of(line), ahead)
            line.fail()
            self.assertEqual(line.shown(), ahead[4])

    def test_many_sorts_within_one_another(self):
        line = Line([1, 0])
        line.begin()
        many = 2000
        for depth in range(1, many):
            line.extend([2 * depth + 1, 2 * depth])
            line.begin(by="key" if depth % 2 else "less", reverse=depth % 3 == 0)
            self.assertEqual((line.depth(), line.shown()), (depth + 1, []))
        other = line.copied()
        for depth in range(many - 1, -1, -1):
            self.assertEqual(line.standing(), [2 * depth + 1, 2 * depth])
            self.assertIs(line.is_changed(), depth < many - 1)
            answers = [0, 0] if line.wants() == ("key", 0) else [False]
            count = None
            for answer in answers:
                try:
                    line.give(answer)
                except RowChanged as error:
                    count = error.count
            self.assertEqual(count, None if depth == many - 1 else 2)
            self.assertEqual((line.shown(), line.depth()), ([2 * depth + 1, 2 * depth], depth))
        self.assertEqual((other.depth(), other.shown()), (many, []))
        for depth in range(many - 1, -1, -1):
            other.fail()
            self.assertEqual((other.shown(), other.depth()), ([2 * depth + 1, 2 * depth], depth))


class Copies(Checking, unittest.TestCase):
    def test_copies_amid_sorts(self):
        """Each deed upon a copy leaves the other one as it was, whichever of both it is."""
        line = Line([4, 6, 5, 7])
        line.begin(by="key", reverse=True)
        line.give(3)
        line.extend([1, 2, 2, 1, 3])
        line.begin()
        line.give(False)
        line.give(True)
        line.extend([2, 1])
        calls = deeds_of() + [("give", (True,)), ("give", (False,)), ("fail", ()), ("begin", ())]
        for name, args in calls:
            for turned in (False, True):
                one, other = line, line.copied()
                one, other = (other, one) if turned else (one, other)
                if not turned:
                    one = one.copied()
                ahead = state_of(other)
                self.assertEqual(state_of(one), ahead)
                try:
                    getattr(one, name)(*args)
                except RowChanged:
                    pass
                self.assertNotEqual(state_of(one), ahead)
                self.assertEqual(state_of(other), ahead)
        one = line.copied()
        for _ in range(2):
            one.fail()
        self.assertEqual((one.shown(), one.depth()), ([4, 6, 5, 7], 0))
        two = line.copied()
        two.fail()
        self.assertEqual(two.shown(), [1, 2, 2, 1, 3])
        self.assertEqual((two.wants(), two.asked(), two.is_changed()), (("key", 1), [(("key", 0), 3)], True))

    def test_copies_at_each_question_go_on_by_themselves(self):
        numbers = random.Random(104)
        values = numbers.sample(range(1000), 140)
        for by in ("less", "key"):
            line = Line(values)
            line.begin(by=by, reverse=True)
            while line.depth():
                other = line.copied()
                self.assertEqual(state_of(other), state_of(line))
                answer = numbers.random() < 0.3 if by == "less" else numbers.randrange(50)
                opposite = not answer if by == "less" else -answer - 1
                line.give(answer)
                ahead = state_of(line)
                other.give(opposite)
                other.fail() if other.depth() else other.clear()
                self.assertEqual(state_of(line), ahead)


class Failed(Exception):
    pass


class Beside:
    """A list of Python and a line, with which the same is done, by key functions and comparisons too."""

    def __init__(self, case, numbers):
        self.case = case
        self.numbers = numbers
        self.values = itertools.count(1)
        self.real = self.new_values(numbers.randrange(2, 7))
        self.line = Line(self.real)
        self.sorts = 0

    def new_values(self, many):
        values = list(itertools.islice(self.values, many))
        self.numbers.shuffle(values)
        return values

    def check(self, depth):
        self.case.assertEqual((self.line.shown(), self.line.depth()), (self.real, depth))

    def do(self):
        """One deed."""
        kind = self.numbers.randrange(9)
        (value,) = self.new_values(1)
        place = self.numbers.randrange(-4, 5)
        if kind == 0:
            self.line.append(value), self.real.append(value)
        elif kind == 1:
            self.line.insert(place, value), self.real.insert(place, value)
        elif kind == 2:
            values = self.new_values(self.numbers.randrange(3))
            self.line.extend(values), self.real.extend(values)
        elif kind == 3:
            values = self.new_values(self.numbers.randrange(4))
            self.line.replace(values)
            self.real[:] = values
        elif kind == 4 and self.real:
            self.case.assertEqual(self.line.pop(), self.real.pop())
        elif kind == 5 and self.real:
            value = self.numbers.choice(self.real)
            self.line.remove(value), self.real.remove(value)
        elif kind == 6:
            self.line.clear(), self.real.clear()
        elif kind == 7:
            self.line.turn(), self.real.reverse()
        elif kind == 8 and -len(self.real) <= place < len(self.real):
            self.case.assertEqual(self.line.pop(place), self.real.pop(place))

    def amid(self, depth):
        """What a key function or a comparison does to the list, sorts among it; it may fail."""
        self.check(depth)
        for _ in range(self.numbers.choice([0, 0, 0, 1, 2, 4])):
            self.do()
            self.check(depth)
        if depth < 4 and self.sorts < 40 and self.numbers.random() < 0.15:
            self.sort(depth)
        if self.numbers.random() < 0.03:
            self.line.fail()
            raise Failed

    def give(self, answer):
        try:
            self.line.give(answer)
        except RowChanged as error:
            return error.count
        return None

    def sort(self, depth):
        """Sorts both, at a depth; what is told of them behind it is the same."""
        self.sorts += 1
        by = self.numbers.choice(["less", "key"])
        reverse = self.numbers.random() < 0.5
        held = list(self.real)
        lost = []
        shown = []

        def told(answer):
            shown[:] = [len(self.real)]
            lost[:] = [self.give(answer)]
            return answer

        def key(value):
            self.case.assertEqual(self.line.wants(), ("key", held.index(value)))
            self.amid(depth + 1)
            return told(self.numbers.randrange(4))

        def compare(one, other):
            self.case.assertEqual(self.line.wants(), ("less", held.index(one), held.index(other)))
            self.amid(depth + 1)
            return -1 if told(self.numbers.random() < 0.5) else 1

        self.line.begin(by=by, reverse=reverse)
        failed = False
        try:
            self.real.sort(key=key if by == "key" else functools.cmp_to_key(compare), reverse=reverse)
            changed = None
        except ValueError:
            changed = shown[0]
        except Failed:
            failed = True
        if not failed:
            self.case.assertEqual((lost or [None])[0], changed)
        self.check(depth)


@unittest.skipUnless(sys.implementation.name == "cpython" and sys.version_info >= (3, 11), "list.sort asks so in CPython")
class AgainstLists(unittest.TestCase):
    def test_a_list_that_is_sorted_and_changed(self):
        numbers = random.Random(105)
        finder = listsort.RunFinder if sys.version_info >= (3, 13) else OldRunFinder
        with mock.patch.object(listsort, "RunFinder", finder):
            for _ in range(800):
                both = Beside(self, numbers)
                for _ in range(3):
                    both.sort(0)
                    both.do()
                    both.check(0)


if __name__ == "__main__":
    unittest.main()
