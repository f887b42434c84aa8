import copy
import itertools
import random
import unittest

from askedorder.errors import InvalidAnswer, InvalidNumber, NothingAsked
from askedorder.listsort import ListSort
from askedorder.live import Sorter
from askedorder.sorting import order_of, pieces_of, questions_of, steps_of
from tests.reference_list import sort_by_answers
from tests.sort_rows import runs_of, shapes
from tests.values import Checking, int_within, number_error, odd_values

# Runs that are long enough to be pieces themselves, so that joins make room
# for later ones, come behind the last one, and leap.
PIECES = [20, 19, 41, 38, 30, 12, 60, 21, 40, 19]


# Two sorted rows, of which many neighbouring items go together in a join, so
# that it leaps, and patience falls and grows again.
CLUMPS = [
    *[key for key in range(0, 20, 2) for _ in range(9)], *range(20, 30),
    *[key for key in range(1, 20, 2) for _ in range(8)], *range(15, 35),
]


def state_of(sorter):
    """All that a sorter tells."""
    return (
        sorter.wanted(), sorter.asked(), sorter.order(), sorter.patience(), sorter.pieces(), sorter.doing(),
    )


def expected_state(many, answers, reverse):
    """The same by the reference, behind these answers."""
    sort = sort_by_answers(many, answers, reverse)
    pieces = [tuple(piece) for piece in sort.pending]
    return sort.waiting, list(zip(sort.questions, answers)), sort.row, sort.min_gallop, pieces, sort.doing


def answer_all(sorter, answer):
    """Answers all questions by a function; returns the states ahead of each answer, and the last one."""
    states = [state_of(sorter)]
    while sorter.wanted() is not None:
        sorter.reply(answer(*sorter.wanted()))
        states.append(state_of(sorter))
    return states


def answered_by_keys(keys, reverse=False):
    sorter = Sorter(len(keys), reverse=reverse)
    return sorter, answer_all(sorter, lambda one, other: keys[one] < keys[other])


def answers_of(states):
    return [answer for _, answer in states[-1][1]]


def liar(numbers, share):
    """Any answers, True with a share."""
    return lambda one, other: numbers.random() < share


def rows():
    """Keys for sorts with all that can be done, of up to 300 items."""
    numbers = random.Random(81)
    yield from ([], [1], [1, 1], [2, 1], [1, 3, 2])
    yield runs_of(PIECES)
    yield runs_of([70, 100, 40, 90])
    yield CLUMPS
    yield CLUMPS + CLUMPS[:100]
    yield [numbers.randrange(50) for _ in range(300)]
    yield [place // 8 for place in range(200, 0, -1)] + list(range(5, 80))
    yield sorted(numbers.randrange(9) for _ in range(64)) + sorted(numbers.randrange(9) for _ in range(66))


class Making(Checking, unittest.TestCase):
    def test_numbers_of_items(self):
        for many in (0, 1, 2, 300):
            self.assertEqual(sorted(Sorter(many).order()), list(range(many)))
        self.assert_raises(InvalidNumber("many"), Sorter, 301)
        self.assert_raises(InvalidNumber("many"), Sorter, -1)

    def test_wrong_arguments(self):
        errors = {
            "many": number_error("many", int_within(0, 300)),
            "reverse": number_error("reverse", lambda value: type(value) is bool),
        }
        self.assert_checked(Sorter, {"many": 3, "reverse": True}, errors)
        with self.assertRaises(TypeError):
            Sorter(3, True)

    def test_none_and_one(self):
        for many in (0, 1):
            for reverse in (False, True):
                sorter = Sorter(many=many, reverse=reverse)
                self.assertEqual(state_of(sorter), (None, [], list(range(many)), 7, [], ("end",)))
                self.assert_raises(NothingAsked(0), sorter.reply, True)
                self.assert_raises(NothingAsked(0), sorter.undo)
                self.assertEqual(state_of(sorter.copied()), state_of(sorter))

    def test_two(self):
        for reverse, question in ((False, (1, 0)), (True, (0, 1))):
            for answer in (False, True):
                sorter = Sorter(2, reverse=reverse)
                self.assertEqual(state_of(sorter), (question, [], [0, 1], 7, [], ("run", 0)))
                self.assertIs(sorter.reply(is_less=answer), None)
                order = [1, 0] if answer else [0, 1]
                ended = (None, [(question, answer)], order, 7, [(0, 2, None)], ("end",))
                self.assertEqual(state_of(sorter), ended)

    def test_what_is_returned_is_new(self):
        sorter, states = answered_by_keys(runs_of([40, 40, 30]))
        for _ in range(10):
            sorter.undo()
        ahead = copy.deepcopy(state_of(sorter))
        for found in (sorter.asked(), sorter.order(), sorter.pieces()):
            self.assertIs(type(found), list)
            self.assertGreater(len(found), 0)
            found.clear()
        self.assertEqual(state_of(sorter), ahead)


class Answering(Checking, unittest.TestCase):
    def check_states(self, states, many, reverse):
        """Checks the states of a sort against the reference; of many states about a hundred, some at each part."""
        answers = answers_of(states)
        counts = set(range(0, len(states), len(states) // 100 + 1))
        for count in range(1, len(states)):
            if states[count][5] != states[count - 1][5]:
                counts |= {count - 1, count}
        for count in counts:
            self.assert_same(states[count], expected_state(many, answers[:count], reverse))

    def test_each_state_with_honest_answers(self):
        for keys in rows():
            for reverse in (False, True):
                _, states = answered_by_keys(keys, reverse)
                self.check_states(states, len(keys), reverse)
                self.assertEqual([question for question, _ in states[-1][1]], questions_of(keys, reverse=reverse))
                self.assertEqual(states[-1][2], order_of(keys, reverse=reverse))

    def test_all_answers_for_few_items(self):
        for many in range(5):
            for reverse in (False, True):
                self.go_on_both_ways(Sorter(many, reverse=reverse), [], many, reverse)

    def go_on_both_ways(self, sorter, answers, many, reverse):
        self.assert_same(state_of(sorter), expected_state(many, answers, reverse))
        if sorter.wanted() is not None:
            for answer in (False, True):
                other = sorter.copied()
                other.reply(answer)
                self.go_on_both_ways(other, answers + [answer], many, reverse)

    def test_answers_of_any_kind(self):
        numbers = random.Random(82)
        for many in (3, 10, 63, 64, 65, 130, 300):
            for share in (0, 0.03, 0.5, 0.9, 1):
                for reverse in (False, True):
                    sorter = Sorter(many, reverse=reverse)
                    states = answer_all(sorter, liar(numbers, share))
                    self.check_states(states, many, reverse)

    def test_what_is_done_amid_a_sort(self):
        for reverse in (False, True):
            _, states = answered_by_keys(CLUMPS[::-1] if reverse else CLUMPS, reverse)
            self.assertGreater(len({state[3] for state in states}), 4)
        keys = runs_of(PIECES)
        for reverse in (False, True):
            _, states = answered_by_keys(keys[::-1] if reverse else keys, reverse)
            self.assertEqual({state[5][0] for state in states}, {"run", "place", "join", "end"})
            amid = [state for state in states if state[5][0] == "join"]
            # A join takes its second piece off the stack at its beginning.
            for *_, pieces, (_, start, first, second) in amid:
                self.assertIn((start, first + second), [piece[:2] for piece in pieces])
            # Some make room, others come behind the last piece.
            covered = [sum(length for _, length, _ in state[4]) for state in amid]
            self.assertEqual((min(covered) < sum(PIECES), max(covered)), (True, sum(PIECES)))

    def test_pieces_and_doing(self):
        keys = runs_of([40, 60, 33, 50])
        _, states = answered_by_keys(keys)
        self.assertEqual(states[-1][4:], ([(0, 183, None)], ("end",)))
        for state in states:
            if state[5] == ("run", 100):
                self.assertEqual(state[4], [(0, 46, 2), (46, 54, None)])
        starts = {state[5][1] for state in states if state[5][0] == "run"}
        self.assertEqual(starts, {start for start, _, _ in pieces_of(keys)})
        places = {state[5][1:] for state in states if state[5][0] == "place"}
        short = {(start, length) for start, found, length in pieces_of(keys) if found < length}
        self.assertEqual(places, short)

    def test_wrong_answers(self):
        for keys in ([1], [2, 1], [1, 2, 3]):
            sorter, _ = answered_by_keys(keys)
            waiting = Sorter(3)
            ended = state_of(sorter)
            for value in odd_values():
                if type(value) is not bool:
                    self.assert_raises(InvalidAnswer(value), sorter.reply, value)
                    self.assert_raises(InvalidAnswer(value), waiting.reply, is_less=value)
            for answer in (False, True):
                self.assert_raises(NothingAsked(len(ended[1])), sorter.reply, answer)
            self.assertEqual(state_of(sorter), ended)
            self.assertEqual(state_of(waiting), state_of(Sorter(3)))

    def test_a_call_that_raises_amid_a_sort_changes_nothing(self):
        sorter = Sorter(100)
        numbers = random.Random(84)
        while sorter.wanted() is not None:
            ahead = state_of(sorter)
            self.assert_raises(InvalidAnswer(1), sorter.reply, 1)
            self.assertEqual(state_of(sorter), ahead)
            sorter.reply(numbers.random() < 0.5)


class GoingBack(Checking, unittest.TestCase):
    def check_undo(self, sorter, states):
        """Takes all answers back, one by one."""
        for state in states[-2::-1]:
            self.assertIs(sorter.undo(), None)
            self.assertEqual(state_of(sorter), state)
        self.assert_raises(NothingAsked(0), sorter.undo)
        self.assertEqual(state_of(sorter), states[0])

    def test_undo_back_to_the_beginning(self):
        for keys in rows():
            for reverse in (False, True):
                self.check_undo(*answered_by_keys(keys, reverse))

    def test_undo_with_answers_of_any_kind(self):
        numbers = random.Random(85)
        for many in (2, 3, 64, 130, 300):
            for share in (0, 0.2, 1):
                sorter = Sorter(many)
                states = answer_all(sorter, liar(numbers, share))
                self.check_undo(sorter, states)

    def test_undo_from_each_place(self):
        for keys in ([1, 3, 2, 2, 0, 7], runs_of([40, 30])):
            _, states = answered_by_keys(keys)
            for count in range(1, len(states)):
                sorter = Sorter(len(keys))
                for answer in answers_of(states)[:count]:
                    sorter.reply(answer)
                self.check_undo(sorter, states[:count + 1])

    def test_another_answer_behind_undo(self):
        for many in (5, 70):
            sorter = Sorter(many)
            answers = []
            numbers = random.Random(86)
            while sorter.wanted() is not None:
                answer = numbers.random() < 0.4
                sorter.reply(not answer)
                sorter.undo()
                sorter.reply(answer)
                answers.append(answer)
                self.assert_same(state_of(sorter), expected_state(many, answers, False))

    def test_back_and_forth_at_random(self):
        numbers = random.Random(87)
        for many in (4, 64, 150):
            sorter = Sorter(many, reverse=True)
            answers = []
            for _ in range(400):
                if answers and numbers.random() < 0.45:
                    sorter.undo()
                    answers.pop()
                elif sorter.wanted() is not None:
                    answers.append(numbers.random() < 0.3)
                    sorter.reply(answers[-1])
                if numbers.random() < 0.1:
                    sorter = sorter.copied()
                self.assert_same(state_of(sorter), expected_state(many, answers, True))

    def test_copies_go_on_by_themselves(self):
        numbers = random.Random(88)
        for keys in rows():
            sorter, states = answered_by_keys(keys)
            answers = answers_of(states)
            sorter = Sorter(len(keys))
            for count, answer in enumerate(answers):
                other = sorter.copied()
                self.assertEqual(state_of(other), states[count])
                if numbers.random() < 0.005 or len(keys) < 4:
                    others = answers[:count] + [not answer]
                    other.reply(not answer)
                    self.assertEqual(state_of(other), expected_state(len(keys), others, False))
                    self.assertEqual(state_of(sorter), states[count])
                    self.check_undo(other, states[:count + 1] + [None])
                sorter.reply(answer)
                self.assertEqual(state_of(sorter), states[count + 1])

    def test_the_steps_within_go_back_too(self):
        """The steps of [7.3], which the sort within a sorter notes: undo and copies leave them as if asked anew."""
        numbers = random.Random(90)
        for keys in rows():
            sort = ListSort(len(keys), False)
            steps = {0: []}
            while sort.waiting is not None:
                one, other = sort.waiting
                sort.take(keys[one] < keys[other])
                steps[len(sort.log)] = list(sort.steps)
            self.assertEqual(sort.steps, steps_of(keys))
            while sort.log:
                if numbers.random() < 0.3:
                    twin = sort.copied()
                    self.assertEqual(twin.steps, sort.steps)
                    twin.steps.append(None)
                sort.undo()
                self.assertEqual(sort.steps, steps[len(sort.log)])

    def test_undo_does_not_change_a_copy(self):
        sorter, states = answered_by_keys(runs_of([70, 65]))
        other = sorter.copied()
        self.check_undo(sorter, states)
        self.assertEqual(state_of(other), states[-1])
        self.check_undo(other, states)

    def test_two_sorters_at_once(self):
        keys = runs_of([40, 70])
        _, states = answered_by_keys(keys)
        one, other = Sorter(len(keys)), Sorter(len(keys), reverse=True)
        honest = other.copied()
        expected = answer_all(honest, lambda i, j: keys[i] < keys[j])
        for count in range(max(len(states), len(expected)) - 1):
            for sorter, rows_of_states in ((one, states), (other, expected)):
                if sorter.wanted() is not None:
                    i, j = sorter.wanted()
                    sorter.reply(keys[i] < keys[j])
                    self.assertEqual(state_of(sorter), rows_of_states[count + 1])


class Facts(unittest.TestCase):
    def test_the_sort_ends_and_its_order_is_one(self):
        numbers = random.Random(89)
        for many in (0, 1, 2, 5, 64, 200, 300):
            for share in (0, 0.5, 1):
                states = answer_all(Sorter(many), liar(numbers, share))
                for state in states:
                    self.assertEqual(sorted(state[2]), list(range(many)))
                    for one, other in [question for question, _ in state[1][-1:]]:
                        self.assertNotEqual(one, other)

    def test_all_hangs_on_the_answers_alone(self):
        for keys in itertools.chain(shapes(3), shapes(4)):
            _, states = answered_by_keys(keys)
            _, same = answered_by_keys([3 * key - 50 for key in keys])
            self.assertEqual(states, same)


if __name__ == "__main__":
    unittest.main()
