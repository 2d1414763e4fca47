"""Light floors: how far it is from one place to another, by which row, and from where a place is reached."""

from fallstones.errors import NotLight
from fallstones.kinds import sort_of
from fallstones.runs import knockers_in_time, run


def is_light(floor):
    """Whether a floor has no blocks and no heavy stones."""
    stones = floor.stones()
    return not any([sort_of(stones[cell][0]) in ("block", "heavy") for cell in stones])


def refuse_not_light(floor):
    """Refuse a floor that isn't light."""
    if not is_light(floor):
        raise NotLight("the floor has blocks or heavy stones")


def falls_from(floor, one, other):
    """The falls by a push at one place alone, at beat 0; refused if the floor isn't light or the places are none."""
    refuse_not_light(floor)
    floor.refuse_no_place(one)
    floor.refuse_no_place(other)
    return run(floor, [(one, 0)])[0]


def far(floor, one, other):
    """How many beats behind a push at one place alone another one falls, or None."""
    return falls_from(floor, one, other).get(other)


def row_to(floor, one, other):
    """A row of places, each of which knocks the next, by which one is as far from another as it is, or None."""
    falls = falls_from(floor, one, other)
    if other not in falls:
        return None
    row = [other]
    while row[-1] != one:
        row.append(knockers_in_time(floor, row[-1], falls)[0])
    return row[::-1]


def feeders(floor, place):
    """The sorted list of the places from which a place is reached."""
    refuse_not_light(floor)
    floor.refuse_no_place(place)
    found = {place: True}
    waiting = [place]
    while waiting:
        near = floor.knockers(waiting.pop())
        for other in near:
            if other not in found:
                found[other] = True
                waiting.append(other)
    return sorted(found)
