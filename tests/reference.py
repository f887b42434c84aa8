"""How CPython 3.13 finds a run, told once more: by a function that asks and may be stopped."""


class Stopped(Exception):
    pass


class Asker:
    """Answers by a function of the question, and stops behind so many questions."""

    def __init__(self, answer, most=None):
        self.answer = answer
        self.most = most
        self.questions = []
        self.refused = None

    def less(self, one, other):
        if len(self.questions) == self.most:
            self.refused = (one, other)
            raise Stopped
        self.questions.append((one, other))
        return self.answer(len(self.questions) - 1, one, other)


def turn(row, low, high):
    high -= 1
    while low < high:
        row[low], row[high] = row[high], row[low]
        low, high = low + 1, high - 1


def count_run(row, start, end, less):
    """After count_run in listobject.c; lo[n] there is row[start + n] here."""
    remaining = end - start
    if remaining == 1:
        return 1
    n = 1
    while n < remaining and not less(row[start + n], row[start + n - 1]):
        n += 1
    if n == remaining:
        return n
    if n > 1:
        if less(row[start], row[start + n - 1]):
            return n
        turn(row, start, start + n)
    n += 1
    equal = 0
    while n < remaining:
        if less(row[start + n], row[start + n - 1]):
            if equal:
                turn(row, start + n - equal - 1, start + n)
            equal = 0
        elif less(row[start + n - 1], row[start + n]):
            break
        else:
            equal += 1
        n += 1
    if equal:
        turn(row, start + n - equal - 1, start + n)
    turn(row, start, start + n)
    while n < remaining and not less(row[start + n], row[start + n - 1]):
        n += 1
    return n


def run_by_keys(keys, start, count=None):
    """(length or None, row, questions), stopped behind `count` questions."""
    return _run(len(keys), start, Asker(lambda at, one, other: keys[one] < keys[other], count))


def run_by_answers(many, answers):
    """The same for answers of any kind."""
    return _run(many, 0, Asker(lambda at, one, other: answers[at], len(answers)))


def _run(many, start, asker):
    row = list(range(many))
    try:
        length = count_run(row, start, many, asker.less)
    except Stopped:
        length = None
    return length, row, asker.questions
