"""Pushes: which places are pushed at which beats."""

from fallstones.errors import NoPush
from fallstones.wholes import is_from_nought


def is_push(floor, thing):
    """Whether a thing is a tuple of a place of the floor and a beat."""
    if not isinstance(thing, tuple) or len(thing) != 2:
        return False
    return floor.has_place(thing[0]) and is_from_nought(thing[1])


def are_pushes(floor, thing):
    """Whether a thing is a list of pushes on the floor."""
    return isinstance(thing, list) and all([is_push(floor, push) for push in thing])


def refuse_no_pushes(floor, thing):
    """Refuse what are no pushes on the floor."""
    if not are_pushes(floor, thing):
        raise NoPush("pushes are a list of tuples (place, beat)")
