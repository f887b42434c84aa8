"""Answering the questions of what is done step by step: of runs, of placing, of joins.

A machine has the question that waits in `waiting`, None at its end, and goes
on by `take`, with the answer.
"""


def ask_honestly(machine, keys):
    """Takes a machine to its end with honest answers; returns its questions."""
    questions = []
    while machine.waiting is not None:
        one, other = machine.waiting
        questions.append(machine.waiting)
        machine.take(keys[one] < keys[other])
    return questions


def give_answers(machine, answers):
    """Gives answers one after another, none behind the end; returns the questions that took one."""
    questions = []
    for answer in answers:
        if machine.waiting is None:
            break
        questions.append(machine.waiting)
        machine.take(answer)
    return questions


def honest_answers(keys, questions):
    return [keys[one] < keys[other] for one, other in questions]
