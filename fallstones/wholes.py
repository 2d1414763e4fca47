"""What a whole number is."""


def is_whole(thing):
    """Whether a thing is a whole number."""
    # Python counts truths as integers; here they are no numbers.
    return isinstance(thing, int) and not isinstance(thing, bool)


def is_whole_within(thing, least, most):
    """Whether a thing is a whole number from least to most."""
    return is_whole(thing) and least <= thing <= most


def is_from_nought(thing):
    """Whether a thing is a whole number from 0 on."""
    return is_whole(thing) and thing >= 0


def is_odd_at(number, k):
    """Whether a number is odd when it is halved k times, rounded down."""
    return (number >> k) & 1 == 1
