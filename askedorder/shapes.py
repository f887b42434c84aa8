"""Shapes: all ways in which keys can stand to one another."""


def all_shapes(many):
    """Returns all shapes of so many keys."""
    shapes = [[]]
    for _ in range(many):
        shapes = [longer for shape in shapes for longer in _with_one_more(shape)]
    return shapes


def _with_one_more(shape):
    """Returns the shapes that have one more key: one that there is already, or one that is new."""
    different = max(shape, default=-1) + 1
    with_equal = [shape + [key] for key in range(different)]
    with_new = [[key + 1 if key >= new else key for key in shape] + [new] for new in range(different + 1)]
    return with_equal + with_new
