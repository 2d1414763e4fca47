"""Floors cut in two, and what knocks and stops across the cut."""

from fallstones.errors import NoRoom
from fallstones.floors import Floor
from fallstones.wholes import is_whole_within


def stones_between(floor, first, end):
    """The stones of the columns from the first one to the one ahead of the end, as on a floor of their own."""
    stones = floor.stones()
    return {(x - first, y): stones[(x, y)] for x, y in stones if first <= x < end}


def part(floor, first, end):
    """The floor of the columns from the first one to the one ahead of the end."""
    return Floor(end - first, floor.high(), stones_between(floor, first, end))


def deeds(floor, place):
    """All that a place knocks and stops, as tuples (place, word, other)."""
    knocks = [(place, "knocks", other) for other in floor.knocked(place)]
    stops = [(place, "stops", other) for other in floor.stopped(place)]
    return knocks + stops


def crossing(floor, x):
    """The sorted list of the tuples (place, word, other) of what knocks and stops across the cut at x."""
    near = [place for place in floor.places() if place[0] in (x - 1, x)]
    return sorted([
        (place, word, other)
        for one in near
        for place, word, other in deeds(floor, one)
        if (place[0] < x) != (other[0] < x)
    ])


def cut(floor, x):
    """The floor cut ahead of the column x: a tuple (west, east, crossing)."""
    if not is_whole_within(x, 1, floor.wide() - 1):
        raise NoRoom("a floor is cut between two of its columns")
    return (part(floor, 0, x), part(floor, x, floor.wide()), crossing(floor, x))
