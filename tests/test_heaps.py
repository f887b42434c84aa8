import heapq
import itertools
import math
import random
import unittest

from askedorder.errors import InvalidAnswers, InvalidHeap, InvalidNumber
from askedorder.heaps import (
    count_heaps, deed_done, deed_told, drained, fewest_asked, heap_at, heap_fault, heap_place, is_heap, most_asked,
)
from tests.reference import Asker, Stopped
from tests.values import Checking, answers_error, int_within, is_int, keys_error, number_error, order_error

DEEDS = ("heapify", "push", "pop", "replace", "pushpop")
WITH_NEW = ("push", "replace", "pushpop")
MOST_KEYS = 2500
MOST_TOLD = 10 ** 18


class Item:
    """An item that asks about each comparison."""

    def __init__(self, number, asker):
        self.number = number
        self.asker = asker

    def __lt__(self, other):
        return self.asker.less(self.number, other.number)


def do_by_heapq(deed, many, asker):
    """Does a deed of heapq with so many items; returns (order, given)."""
    row = [Item(number, asker) for number in range(many)]
    call = getattr(heapq, "heapify" if deed == "heapify" else "heap" + deed)
    given = None
    try:
        given = call(row, Item(many, asker)) if deed in WITH_NEW else call(row)
    except Stopped:
        pass
    return [item.number for item in row], None if given is None else given.number


def done_by_heapq(deed, keys, key=None):
    both = [*keys, key]
    asker = Asker(lambda at, one, other: both[one] < both[other])
    order, given = do_by_heapq(deed, len(keys), asker)
    return order, given, asker.questions


def told_by_heapq(deed, many, answers):
    asker = Asker(lambda at, one, other: answers[at], len(answers))
    order, given = do_by_heapq(deed, many, asker)
    return order, given, asker.refused, asker.questions


def answers_of_heapq(deed, many, answer):
    """All answers that a deed takes, each of them told by a function."""
    given = []

    def noted(at, one, other):
        given.append(answer())
        return given[-1]

    do_by_heapq(deed, many, Asker(noted))
    return given


def is_empty_error(deed, many):
    return many == 0 and deed in ("pop", "replace")


def heaps_of(many):
    """All heaps of so many items, in the order of their keys."""
    return [list(order) for order in itertools.permutations(range(many)) if fault_of(order) is None]


def fault_of(keys):
    faults = [place for place in range(1, len(keys)) if keys[place] < keys[(place - 1) // 2]]
    return faults[0] if faults else None


def all_keys():
    """Keys of lists that are heaps and that are none, up to 2,500."""
    numbers = random.Random(131)
    for many in range(6):
        yield from (list(keys) for keys in itertools.product(range(3), repeat=many))
    for many in (6, 7, 8, 15, 16, 17, 31, 32, 33, 100, 1000, 2500):
        yield [numbers.randrange(many) for _ in range(many)]
        yield [numbers.randrange(4) for _ in range(many)]
        yield list(range(many))
        yield list(range(many, 0, -1))
        yield [1] * many


def deed_error(value):
    return None if type(value) is str and value in DEEDS else InvalidNumber("deed")


def heap_keys_error(value):
    return keys_error(value, 0, MOST_KEYS)


class Faults(Checking, unittest.TestCase):
    def test_all_keys(self):
        for keys in all_keys():
            self.assertIs(self.assert_pure(is_heap, keys), fault_of(keys) is None)
            self.assert_same(self.assert_pure(heap_fault, keys), fault_of(keys))

    def test_each_place(self):
        for many in (2, 3, 8, 50, MOST_KEYS):
            for place in range(1, many, 1 + many // 50):
                keys = list(range(many))
                keys[place] = -1
                self.assertEqual([is_heap(keys), heap_fault(keys)], [False, place])

    def test_equal_keys_are_a_heap(self):
        self.assertEqual([is_heap([2, 2, 2]), heap_fault([2, 2, 2]), is_heap([2, 2, 1])], [True, None, False])
        self.assertEqual([is_heap([]), heap_fault([]), is_heap([1]), heap_fault([1])], [True, None, True, None])

    def test_wrong_arguments(self):
        more = {"keys": [[1] * 2501, [1, True], (None, 1), [[1]]]}
        for function in (is_heap, heap_fault, drained):
            self.assert_checked(function, {"keys": [1]}, {"keys": heap_keys_error}, more)


class DeedDone(Checking, unittest.TestCase):
    def test_against_heapq(self):
        numbers = random.Random(132)
        for keys in all_keys():
            for deed in DEEDS:
                if is_empty_error(deed, len(keys)):
                    continue
                news = [None]
                if deed in WITH_NEW:
                    least, greatest = min(keys, default=0), max(keys, default=0)
                    news = [least - 1, least, greatest, greatest + 1, numbers.randrange(least, greatest + 1)]
                for key in news if len(keys) < 6 else [numbers.choice(news)]:
                    self.assert_same(self.assert_pure(deed_done, deed, keys, key), done_by_heapq(deed, keys, key))

    def test_deeds_with_heaps(self):
        numbers = random.Random(133)
        for many in (1, 2, 3, 10, 63, 500, MOST_KEYS):
            keys = sorted(numbers.randrange(2 * many) for _ in range(many))
            for deed in DEEDS:
                key = numbers.randrange(2 * many) if deed in WITH_NEW else None
                order, given, questions = deed_done(deed, keys, key)
                self.assertEqual((order, given, questions), done_by_heapq(deed, keys, key))
                both = [*keys, key]
                self.assertTrue(is_heap([both[item] for item in order][:MOST_KEYS]))

    def test_without_items(self):
        self.assertEqual(deed_done("heapify", []), ([], None, []))
        self.assertEqual(deed_done("push", [], 5), ([0], None, []))
        self.assertEqual(deed_done("pushpop", [], 5), ([], 0, []))
        for deed, key in (("pop", None), ("replace", 3)):
            self.assert_raises(InvalidHeap(-1), deed_done, deed, [], key)

    def test_one_item(self):
        self.assertEqual(deed_done("heapify", [4]), ([0], None, []))
        self.assertEqual(deed_done("pop", [4]), ([], 0, []))
        self.assertEqual(deed_done("replace", [4], 5), ([1], 0, []))
        self.assertEqual(deed_done("push", [4], 5), ([0, 1], None, [(1, 0)]))
        self.assertEqual(deed_done("pushpop", [4], 5), ([1], 0, [(0, 1)]))
        self.assertEqual(deed_done("pushpop", [4], 4), ([0], 1, [(0, 1)]))

    def test_wrong_arguments(self):
        def new_error(value):
            return None if is_int(value) else InvalidNumber("key")

        def none_error(value):
            return None if value is None else InvalidNumber("key")

        more = {"deed": ["Push", "heappush", "", "push ", b"push", ["push"]], "keys": [[1] * 2501, [1, True], [[1]]]}
        for deed in DEEDS:
            errors = {"deed": deed_error, "keys": heap_keys_error}
            errors["key"] = new_error if deed in WITH_NEW else none_error
            right = {"deed": deed, "keys": [1, 2], "key": 1 if deed in WITH_NEW else None}
            # Another deed may have no new item, or need one.
            del errors["deed"], right["deed"]

            def call(keys, key=None, deed=deed):
                return deed_done(deed=deed, keys=keys, key=key)

            self.assert_checked(call, right, errors, more)
            if deed in WITH_NEW:
                self.assert_raises(InvalidNumber("key"), deed_done, deed, [1])
                self.assert_raises(InvalidNumber("key"), deed_done, deed, [])
            else:
                self.assert_raises(InvalidNumber("key"), deed_done, deed, [], 1)
        self.assert_checked(deed_done, {"deed": "pop", "keys": [1]}, {"deed": deed_error, "keys": heap_keys_error}, more)


class DeedTold(Checking, unittest.TestCase):
    def check(self, deed, many, answers):
        found = self.assert_pure(deed_told, deed, many, answers)
        self.assert_same(found, told_by_heapq(deed, many, answers))
        return found

    def test_all_answers(self):
        """Each number of answers from none to one too many, for few items."""
        for deed in DEEDS:
            for many in range(8 if deed != "heapify" else 6):
                if is_empty_error(deed, many):
                    self.assert_raises(InvalidHeap(-1), deed_told, deed, many, [])
                    continue
                waiting = [[]]
                while waiting:
                    answers = waiting.pop()
                    if self.check(deed, many, answers)[2] is None:
                        for more in ([False], [True, True]):
                            self.assert_raises(InvalidAnswers(len(answers)), deed_told, deed, many, answers + more)
                    else:
                        waiting += [answers + [False], answers + [True]]

    def test_many_items(self):
        numbers = random.Random(134)
        for deed in DEEDS:
            for many in (20, 63, 64, 65, 700, MOST_KEYS):
                for share in (0, 0.5, 1):
                    answers = answers_of_heapq(deed, many, lambda: numbers.random() < share)
                    for count in {0, 1, 2, len(answers) // 2, len(answers) - 1, len(answers)}:
                        self.check(deed, many, answers[:count])
                    self.assert_raises(InvalidAnswers(len(answers)), deed_told, deed, many, answers + [True, False])

    def test_what_is_given_is_lost_at_a_question(self):
        self.assertEqual(deed_told("pop", 3, []), ([1, 2], None, (2, 1), []))
        self.assertEqual(deed_told("pop", 4, [])[:3], ([3, 1, 2], None, (1, 2)))
        self.assertEqual(deed_told("replace", 2, [])[:3], ([1, 2], None, (2, 1)))
        self.assertEqual(deed_told("pushpop", 2, [])[:3], ([0, 1], None, (0, 2)))
        self.assertEqual(deed_told("pushpop", 2, [True])[:3], ([1, 2], None, (2, 1)))
        self.assertEqual(deed_told("push", 1, [])[:3], ([0, 1], None, (1, 0)))

    def test_wrong_arguments(self):
        errors = {"deed": deed_error, "many": number_error("many", int_within(0, MOST_KEYS)), "answers": answers_error}
        more = {"deed": ["", "heap"], "many": [2501], "answers": [[True, 1], (None,), [[True]]]}
        self.assert_checked(deed_told, {"deed": "pushpop", "many": 3, "answers": [True]}, errors, more)
        for deed in ("pop", "replace"):
            self.assert_raises(InvalidHeap(-1), deed_told, deed, 0, [True])
            self.assert_raises(InvalidAnswers(1), deed_told, deed, 0, [True, 1])
        for deed in ("heapify", "push", "pushpop"):
            self.assert_raises(InvalidAnswers(0), deed_told, deed, 0, [True])


def asked_numbers(deed, many):
    """The numbers of questions that a deed can ask, over all answers."""
    found = set()
    waiting = [[]]
    while waiting:
        answers = waiting.pop()
        _, _, question, _ = deed_told(deed, many, answers)
        if question is None:
            found.add(len(answers))
        else:
            waiting += [answers + [False], answers + [True]]
    return found


def sinks_by_places(many):
    """(fewest, most) of heapify, from place to place: a sink goes down to a leaf, and then rises."""
    ways = {}
    for place in range(many - 1, -1, -1):
        children = [child for child in (2 * place + 1, 2 * place + 2) if child < many]
        asked = len(children) // 2
        # What is asked on the way down, and how many steps it has.
        ways[place] = {(asked + down, steps + 1) for child in children for down, steps in ways[child]} or {(0, 0)}
    fewest = sum(min(down + min(steps, 1) for down, steps in ways[place]) for place in range(many // 2))
    most = sum(max(down + steps for down, steps in ways[place]) for place in range(many // 2))
    return fewest, most


class Asked(Checking, unittest.TestCase):
    def both(self, deed, many):
        return fewest_asked(deed, many), most_asked(deed, many)

    def test_all_answers_for_few_items(self):
        for deed in DEEDS:
            for many in range(18 if deed != "heapify" else 9):
                if not is_empty_error(deed, many):
                    found = asked_numbers(deed, many)
                    self.assert_same(self.both(deed, many), (min(found), max(found)))

    def test_heapify_by_its_sinks(self):
        for many in range(300):
            self.assertEqual(self.both("heapify", many), sinks_by_places(many))

    def test_one_sink(self):
        for many in range(1, 40):
            ways = asked_numbers("replace", many)
            self.assertEqual(self.both("replace", many), (min(ways), max(ways)))
            self.assertEqual(self.both("pop", many + 1), (min(ways), max(ways)))
            self.assertEqual(self.both("pushpop", many), (1, max(ways) + 1))

    def test_many_items(self):
        many = 10 ** 18
        self.assertEqual(many.bit_length(), 60)
        self.assertEqual(self.both("push", many), (1, 59))
        self.assertEqual(self.both("replace", many), (59, 118))
        self.assertEqual(self.both("pop", many), (59, 118))
        self.assertEqual(self.both("pushpop", many), (1, 119))
        full = 2 ** 59 - 1
        self.assertEqual(self.both("replace", full), (59, 116))
        self.assertEqual(self.both("replace", full + 1), (59, 117))
        self.assertEqual(self.both("replace", full + 2), (59, 118))
        self.assertEqual(self.both("pop", full + 1), (59, 116))
        self.assertEqual(self.both("push", full), (1, 59))
        self.assertEqual(self.both("push", full - 1), (1, 58))
        # In a full heap of so many levels, 2 ** (59 - height - 1) places have each height.
        self.assertEqual(self.both("heapify", full), tuple(
            sum(2 ** (58 - height) * asked(height) for height in range(1, 59))
            for asked in (lambda height: height + 1, lambda height: 2 * height)
        ))

    def test_heapify_of_many_items_adds_up(self):
        for many in (10 ** 18, 10 ** 18 - 1, 2 ** 59, 3 * 2 ** 57, 123456789012345678):
            # The lower levels are those of the parts below the first item.
            half = 2 ** (many.bit_length() - 2)
            left = min(many - half, 2 * half - 1)
            for asked in (fewest_asked, most_asked):
                parts = asked("heapify", left) + asked("heapify", many - 1 - left)
                self.assertEqual(asked("heapify", many), parts + asked("replace", many))

    def test_wrong_arguments(self):
        errors = {"deed": deed_error, "many": number_error("many", int_within(0, MOST_TOLD))}
        more = {"deed": ["", "Pop", ["pop"]], "many": [MOST_TOLD + 1]}
        for function in (fewest_asked, most_asked):
            self.assert_checked(function, {"deed": "push", "many": 2}, errors, more)
            for deed in ("pop", "replace"):
                self.assert_raises(InvalidHeap(-1), function, deed, 0)
                self.assert_raises(InvalidNumber("many"), function, deed, False)
            self.assertEqual([function(deed, 0) for deed in ("heapify", "push", "pushpop")], [0, 0, 0])


class Drained(Checking, unittest.TestCase):
    def drained_by_heapq(self, keys):
        asker = Asker(lambda at, one, other: keys[one] < keys[other])
        row = [Item(number, asker) for number in range(len(keys))]
        heapq.heapify(row)
        counts = [len(asker.questions)]
        given = []
        while row:
            given.append(heapq.heappop(row).number)
            counts.append(len(asker.questions) - sum(counts))
        return given, counts

    def test_against_heapq(self):
        for keys in all_keys():
            found = self.assert_pure(drained, keys) if len(keys) < 1000 else drained(keys)
            self.assert_same(found, self.drained_by_heapq(keys))
            self.assertEqual([keys[item] for item in found[0]], sorted(keys))
            self.assertEqual(len(found[1]), len(keys) + 1)

    def test_equal_keys_come_in_any_order(self):
        self.assertEqual(drained([1, 1, 1])[0], self.drained_by_heapq([1, 1, 1])[0])
        self.assertNotEqual(drained([1] * 5)[0], list(range(5)))
        self.assertEqual([drained([]), drained([7])], [([], [0]), ([0], [0, 0])])


class Numbered(Checking, unittest.TestCase):
    def test_all_orders_of_few_items(self):
        for many in range(9):
            heaps = heaps_of(many)
            self.assert_same(self.assert_pure(count_heaps, many), len(heaps))
            for number, heap in enumerate(heaps):
                self.assertEqual(heap_place(heap), number)
                self.assertEqual(heap_at(many, number), heap)
            self.assert_raises(InvalidNumber("place"), heap_at, many, len(heaps))
        for order in itertools.permutations(range(5)):
            fault = fault_of(order)
            if fault is None:
                self.assert_pure(heap_place, order)
            else:
                self.assert_raises(InvalidHeap(fault), heap_place, order)

    def test_nine_and_more_items(self):
        # Of all orders, as many are heaps as if each place had its own chance of being the least of those below it.
        for many in (9, 10, 15, 16, 60, 63, 64, 255, 300):
            sizes = [0] * many
            for place in range(many - 1, -1, -1):
                sizes[place] = 1 + sum(sizes[2 * place + 1:2 * place + 3])
            self.assertEqual(count_heaps(many), math.factorial(many) // math.prod(sizes))

    def test_60_items(self):
        numbers = random.Random(136)
        many = count_heaps(60)
        for number in [0, 1, 2, many - 1, many - 2, *(numbers.randrange(many) for _ in range(12))]:
            heap = self.assert_pure(heap_at, 60, number)
            self.assertTrue(is_heap(heap))
            self.assertEqual(sorted(heap), list(range(60)))
            self.assert_same(self.assert_pure(heap_place, heap), number)
        self.assertEqual(heap_at(60, 0), list(range(60)))
        self.assertGreater(heap_at(60, many // 2), heap_at(60, many // 3))
        self.assert_raises(InvalidNumber("place"), heap_at, 60, many)

    def test_neighbours_in_the_numbering(self):
        for many in (12, 31, 60):
            middle = count_heaps(many) // 2
            heaps = [heap_at(many, number) for number in range(middle, middle + 20)]
            self.assertEqual(heaps, sorted(heaps))
            self.assertEqual([heap_place(heap) for heap in heaps], list(range(middle, middle + 20)))

    def test_wrong_arguments(self):
        self.assert_checked(
            count_heaps, {"many": 3}, {"many": number_error("many", int_within(0, 300))}, {"many": [301]},
        )
        errors = {"many": number_error("many", int_within(0, 60)), "place": number_error("place", int_within(0, 2))}
        self.assert_checked(heap_at, {"many": 4, "place": 0}, errors, {"many": [61], "place": [3, 4]})
        self.assert_raises(InvalidNumber("place"), heap_at, 0, 1)
        self.assertEqual([heap_at(0, 0), heap_at(1, 0), heap_place([]), heap_place([0])], [[], [0], 0, 0])

        def error(value):
            found = order_error(value, 60)
            if found is None and fault_of(value) is not None:
                found = InvalidHeap(fault_of(value))
            return found

        more = [list(range(61)), [0, 0], [1, 0, 2], [0, 1, 3], [0, True], [2, 1, 0], (0, 2, 1, 1), [0, 2, 3, 1], [1]]
        self.assert_checked(heap_place, {"order": [0]}, {"order": error}, {"order": more})


if __name__ == "__main__":
    unittest.main()
