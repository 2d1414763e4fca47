"""Falling freely, and timetables: the beats at which places fall or never, whichever of the ways in come."""

from fallstones.floors import Floor
from fallstones.kinds import sort_of
from fallstones.runs import comings, due_by_both, is_heavy, knockers_in_time, run, tells_beats
from fallstones.ways import refuse_no_ways


def freed(stone):
    """The stone without its stop side."""
    kind, beats = stone
    # A block is a one-way stone and the letter of its stop side.
    return (kind[0], beats) if sort_of(kind) == "block" else stone


def free_falls(floor, pushes):
    """The falls by pushes as if no stop side were there: a dict from places to beats."""
    stones = floor.stones()
    free = Floor(floor.wide(), floor.high(), {cell: freed(stones[cell]) for cell in stones})
    return run(free, pushes)[0]


def due_in_time(floor, place, pushed, told):
    """Whether a place is pushed, or knocked, as it has to be to fall at its beat."""
    if not is_heavy(floor, place):
        return place in pushed or knockers_in_time(floor, place, told) != []
    due = due_by_both(floor, place, told)
    return place in pushed if due is None else told[place] == due


def knocks_in_time(floor, place, other, pushed, told):
    """Whether a place knocks another one in time, or later than that only goes back to where it was knocked from."""
    beat = told[place] + floor.beats(place)
    if beat <= told[other]:
        return beat == told[other]
    return place not in pushed and knockers_in_time(floor, place, told) == [other]


def fits_at(floor, place, pushed, told):
    """Whether a timetable that has just the right places fits at one of them."""
    light = [other for other in floor.knocked(place) if not is_heavy(floor, other)]
    if not all([knocks_in_time(floor, place, other, pushed, told) for other in light]):
        return False
    stops = comings(floor, floor.stoppers(place), told)
    return due_in_time(floor, place, pushed, told) and told[place] not in stops


def fits(floor, pushes, told):
    """Whether beats of just the places that fall freely by pushes are a timetable."""
    if any([told[place] != beat for place, beat in pushes]):
        return False
    pushed = {place: True for place, beat in pushes}
    return all([fits_at(floor, place, pushed, told) for place in told])


def is_timetable(floor, ways, thing):
    """Whether a thing is a timetable of the floor and ways in."""
    refuse_no_ways(floor, ways)
    pushes = ways[0] + ways[1]
    if not tells_beats(floor, thing) or sorted(thing) != sorted(free_falls(floor, pushes)):
        return False
    return fits(floor, pushes, thing)


def timetable(floor, ways):
    """The timetable of the floor and ways in, or None where there is none."""
    refuse_no_ways(floor, ways)
    pushes = ways[0] + ways[1]
    falls = free_falls(floor, pushes)
    return falls if fits(floor, pushes, falls) else None
