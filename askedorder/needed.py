"""What had to be asked: which answers follow from others, and when the order is settled."""

from askedorder.checks import check_bool, check_keys, check_log, check_number, check_question
from askedorder.errors import Mismatch, TooLarge
from askedorder.relations import Relations
from askedorder.sorting import questions_of

MOST_ITEMS = 40
MOST_WEIGHED_ITEMS = 12
MOST_WEIGHED_ENTRIES = 100


def follows(many, log, question):
    """Returns the answer to a question if it is the same for all the keys of a log, otherwise None."""
    _check_many_and_log(many, log)
    check_question(question, many)
    return _honest_relations(many, log).follows(question)


def implied(many, log):
    """Returns the places of the entries whose answers follow from the entries before them."""
    _check_many_and_log(many, log)
    _honest_relations(many, log)
    return _followed_places(many, log)


def settles(many, log, *, reverse=False):
    """Returns the stable order if it is the same for all the keys of a log, otherwise None."""
    _check_many_and_log(many, log)
    check_bool("reverse", reverse)
    relations = _honest_relations(many, log)
    return _settled_order(relations, reverse) if _is_settled(relations, reverse) else None


def open_pairs(many, log, *, reverse=False):
    """Returns the pairs of items that stand one way in some of the stable orders, and the other way in others."""
    _check_many_and_log(many, log)
    check_bool("reverse", reverse)
    relations = _honest_relations(many, log)
    return [pair for pair in _all_pairs(many) if _stands_first(relations, pair, reverse) is None]


def needless(many, log, *, reverse=False):
    """Returns the places of the entries of which each can be left out alone."""
    _check_weighed(many, log, reverse)
    return [place for place in range(len(log)) if _do_settle(many, [*log[:place], *log[place + 1:]], reverse)]


def kept(many, log, *, reverse=False):
    """Returns the places of the entries that remain if all that can be are left out, the last ones first."""
    _check_weighed(many, log, reverse)
    places = list(range(len(log)))
    for place in range(len(log) - 1, -1, -1):
        others = [other for other in places if other != place]
        if _do_settle(many, [log[other] for other in others], reverse):
            places = others
    return places


def wasted(keys, *, reverse=False):
    """Returns the places of the questions of a sort whose answers follow from the answers before."""
    log = _log_of_sort(keys, reverse)
    return _followed_places(len(keys), log)


def settled_at(keys, *, reverse=False):
    """Returns the least number of questions of a sort whose answers settle the stable order."""
    log = _log_of_sort(keys, reverse)
    relations = Relations(len(keys))
    count = 0
    while not _is_settled(relations, reverse):
        question, answer = log[count]
        relations.learn(question, answer)
        count += 1
    return count


def _log_of_sort(keys, reverse):
    """Returns the log of the sort of keys, with honest answers."""
    check_keys(keys, 0, MOST_ITEMS)
    questions = questions_of(keys, reverse=reverse)
    return [((one, other), keys[one] < keys[other]) for one, other in questions]


def _followed_places(many, log):
    relations = Relations(many)
    return [place for place, (question, answer) in enumerate(log) if relations.learn(question, answer) is not None]


def _do_settle(many, entries, reverse):
    """Returns whether honest entries settle the stable order."""
    return _is_settled(_honest_relations(many, entries), reverse)


def _is_settled(relations, reverse):
    for pair in _all_pairs(relations.many):
        if _stands_first(relations, pair, reverse) is None:
            return False
    return True


def _settled_order(relations, reverse):
    places = [0] * relations.many
    for one, other in _all_pairs(relations.many):
        behind = other if _stands_first(relations, (one, other), reverse) else one
        places[behind] += 1
    order = [0] * relations.many
    for item, place in enumerate(places):
        order[place] = item
    return order


def _stands_first(relations, pair, reverse):
    """Returns whether the first item of an ascending pair stands before the other one, None if that is open."""
    one, other = pair
    # Of equal keys the first item stands ahead, so it is the answer that says
    # whether the other one has to go past it that decides.
    goes_past = relations.follows((one, other) if reverse else (other, one))
    return None if goes_past is None else not goes_past


def _all_pairs(many):
    return [(one, other) for one in range(many) for other in range(one + 1, many)]


def _honest_relations(many, log):
    relations = Relations(many)
    if relations.first_lie(log) is not None:
        raise Mismatch("log")
    return relations


def _check_many_and_log(many, log):
    check_number("many", many, 0, MOST_ITEMS)
    check_log(log, many)


def _check_weighed(many, log, reverse):
    """Checks that a log settles the stable order, and is not too large for weighing its entries."""
    _check_many_and_log(many, log)
    check_bool("reverse", reverse)
    if not _do_settle(many, log, reverse):
        raise Mismatch("open")
    if many > MOST_WEIGHED_ITEMS:
        raise TooLarge(MOST_WEIGHED_ITEMS)
    if len(log) > MOST_WEIGHED_ENTRIES:
        raise TooLarge(MOST_WEIGHED_ENTRIES)
