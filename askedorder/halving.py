"""How many questions it takes to find a place by halves.

Among so many items there are one place more. Whichever is found, two numbers
of questions can occur, of which one is 1 more than the other.
"""


def fewest_of_halving(size):
    """Returns how many questions finding a place among so many items takes at least."""
    return (size + 1).bit_length() - 1


def most_of_halving(size):
    """Returns how many questions finding a place among so many items takes at most."""
    return size.bit_length()


def long_ways_of_halving(size):
    """Returns for how many of the places it takes one question more than the fewest."""
    return 2 * (size + 1 - (1 << fewest_of_halving(size)))


def total_of_halving(size):
    """Returns how many questions it takes together to find each of the places."""
    return (size + 1) * fewest_of_halving(size) + long_ways_of_halving(size)
