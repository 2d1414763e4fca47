"""Runs: which stones fall and which blocks are stopped, and at which beats."""

from fallstones.kinds import sort_of
from fallstones.pushes import refuse_no_pushes
from fallstones.wholes import is_whole


def is_heavy(floor, place):
    """Whether a heavy stone stands at a place."""
    return sort_of(floor.kind(place)) == "heavy"


def comings(floor, places, falls):
    """The beats at which those of the places that fall come to knock and stop."""
    return [falls[place] + floor.beats(place) for place in places if place in falls]


def knockers_in_time(floor, place, falls):
    """The sorted list of the places that, as they fall, knock a place at the very beat at which it falls."""
    near = [other for other in floor.knockers(place) if other in falls]
    return [other for other in near if falls[other] + floor.beats(other) == falls[place]]


def due_by_both(floor, place, falls):
    """The beat at which a heavy place has been knocked from both its in sides, or None."""
    # At an in side stands one place at most that knocks, and it does so once.
    knocks = comings(floor, floor.knockers(place), falls)
    return max(knocks) if len(knocks) == 2 else None


def expect(agenda, beat, word, place):
    """Put down what comes at a beat in an agenda, which has its latest beats first."""
    low = 0
    high = len(agenda)
    while low < high:
        middle = (low + high) // 2
        if agenda[middle][0] > beat:
            low = middle + 1
        else:
            high = middle
    agenda.insert(low, (beat, word, place))


def expect_from(floor, place, falls, agenda):
    """Put down what comes of a place that has just fallen."""
    beat = falls[place] + floor.beats(place)
    for other in floor.stopped(place):
        expect(agenda, beat, "stop", other)
    for other in floor.knocked(place):
        due = due_by_both(floor, other, falls) if is_heavy(floor, other) else beat
        if due is not None:
            expect(agenda, due, "due", other)


def take_beat(agenda):
    """Take what comes at the next beat: a tuple (beat, dues, stops), two dicts that have the places as keys."""
    beat = agenda[-1][0]
    dues = {}
    stops = {}
    while agenda and agenda[-1][0] == beat:
        coming = agenda.pop()
        if coming[1] == "due":
            dues[coming[2]] = True
        else:
            stops[coming[2]] = True
    return (beat, dues, stops)


def course(floor, pushes, firsts):
    """The run by a list of firsts: a tuple (falls, stopped, races)."""
    falls = {}
    stopped = {}
    races = []
    agenda = []
    for place, beat in pushes:
        expect(agenda, beat, "due", place)
    while agenda:
        beat, dues, stops = take_beat(agenda)
        for place in stops:
            if place in falls or place in stopped:
                continue
            if place in dues:
                races.append((beat, place))
            if place not in dues or place not in firsts:
                stopped[place] = beat
        for place in dues:
            if place not in falls and place not in stopped:
                falls[place] = beat
                expect_from(floor, place, falls, agenda)
    return (falls, stopped, races)


def run(floor, pushes):
    """The run by pushes: a tuple (falls, stopped) of dicts from places to beats."""
    refuse_no_pushes(floor, pushes)
    falls, stopped, races = course(floor, pushes, [])
    return (falls, stopped)


def first_due(floor, pushes, place, falls):
    """The first beat at which a place is due, by the pushes and the told falls, or None."""
    dues = [beat for pushed, beat in pushes if pushed == place]
    if not is_heavy(floor, place):
        dues.extend(comings(floor, floor.knockers(place), falls))
    elif due_by_both(floor, place, falls) is not None:
        dues.append(due_by_both(floor, place, falls))
    return min(dues, default=None)


def keeps_rules_at(floor, pushes, place, falls, stopped):
    """Whether what is told of one place keeps the rules, by the told falls."""
    due = first_due(floor, pushes, place, falls)
    stop = min(comings(floor, floor.stoppers(place), falls), default=None)
    if due is None or stop is None:
        return falls.get(place) == due and stopped.get(place) == stop
    if due < stop:
        return falls.get(place) == due and place not in stopped
    return place not in falls and stopped.get(place) == stop


def tells_beats(floor, thing):
    """Whether a thing is a dict from places of the floor to whole numbers."""
    if not isinstance(thing, dict):
        return False
    return all([floor.has_place(place) and is_whole(thing[place]) for place in thing])


def keeps_rules(floor, pushes, falls, stopped):
    """Whether falls and stopped are dicts that keep the rules of a run by the pushes."""
    refuse_no_pushes(floor, pushes)
    if not tells_beats(floor, falls) or not tells_beats(floor, stopped):
        return False
    return all([keeps_rules_at(floor, pushes, place, falls, stopped) for place in floor.places()])
