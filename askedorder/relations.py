"""What answers tell together of the keys of items."""


class Relations:
    """What answers that fit together tell of so many items.

    Sets of items are integers here: item j is in such a set if its binary
    figure j is 1. `below[i]` has the items whose keys surely are not less than
    that of item i, i among them; `strictly_below[i]` those whose keys surely
    are greater.
    """

    def __init__(self, many):
        self.many = many
        self.below = [1 << item for item in range(many)]
        self.strictly_below = [0] * many

    def follows(self, question):
        """Returns the answer to a question if it follows from the answers so far, otherwise None."""
        one, other = question
        if self.strictly_below[one] >> other & 1:
            return True
        if self.below[other] >> one & 1:
            return False
        return None

    def learn(self, question, answer):
        """Takes an answer, unless there is one that follows already; returns that one, otherwise None."""
        followed = self.follows(question)
        if followed is None:
            self._join_steps(question, answer)
        return followed

    def first_lie(self, log):
        """Takes the answers of a log; returns the place of the first one that does not fit, None if all do."""
        for place, (question, answer) in enumerate(log):
            followed = self.learn(question, answer)
            if followed is not None and followed != answer:
                return place
        return None

    def least_keys(self):
        """Returns the least keys, from 0 on, that fit all answers."""
        keys = [0] * self.many
        raised = list(range(self.many))
        while raised:
            greater = 0
            for item in raised:
                greater |= self.strictly_below[item]
            raised = [item for item in raised if greater >> item & 1]
            for item in raised:
                keys[item] += 1
        return keys

    def _join_steps(self, question, answer):
        # False to (i, j) tells a step from j to i that may be one of equal keys.
        low, high = question if answer else question[::-1]
        beyond = self.below[high]
        strictly_beyond = self.strictly_below[high]
        for item in range(self.many):
            if self.below[item] >> low & 1:
                is_strict = answer or self.strictly_below[item] >> low & 1
                self.strictly_below[item] |= beyond if is_strict else strictly_beyond
                self.below[item] |= beyond
