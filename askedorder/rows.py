"""Keys, honest answers and stable orders."""

from askedorder.checks import check_bool, check_keys, check_order, check_question


def honest(keys, question):
    """Returns the honest answer to a question of keys."""
    check_keys(keys)
    check_question(question, len(keys))
    one, other = question
    return keys[one] < keys[other]


def stable_order(keys, *, reverse=False):
    """Returns the stable order of keys, as a list."""
    check_keys(keys)
    check_bool("reverse", reverse)
    return _stable(keys, reverse)


def is_order(keys, order, *, reverse=False):
    """Returns whether an order is the stable one of keys."""
    check_keys(keys)
    check_order(order, len(keys))
    check_bool("reverse", reverse)
    return list(order) == _stable(keys, reverse)


def _stable(keys, reverse):
    # With reverse the keys are negated instead of the list being turned:
    # equal keys keep their items in ascending order this way.
    sign = -1 if reverse else 1
    pairs = sorted([(sign * key, item) for item, key in enumerate(keys)])
    return [item for _, item in pairs]
