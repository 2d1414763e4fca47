"""Ways in: pushes that always come and pushes that may come, and what a floor answers to each choice of these."""

from fallstones.errors import NoChoice, NoWays
from fallstones.pushes import are_pushes
from fallstones.races import races
from fallstones.runs import run
from fallstones.wholes import is_odd_at, is_whole_within

MOST_INS = 6


def are_ways(floor, thing):
    """Whether a thing is a tuple (starts, ins) of ways in on the floor."""
    if not isinstance(thing, tuple) or len(thing) != 2:
        return False
    starts, ins = thing
    if not are_pushes(floor, starts) or not are_pushes(floor, ins):
        return False
    return 1 <= len(ins) <= MOST_INS and len({place for place, beat in ins}) == len(ins)


def refuse_no_ways(floor, thing):
    """Refuse what are no ways in on the floor."""
    if not are_ways(floor, thing):
        raise NoWays("ways in are a tuple of two lists of pushes, the second one of one to six at unlike places")


def choices(many):
    """The list of the choices of so many ways in, in order."""
    return list(range(1 << many))


def comes(choice, k):
    """Whether way in number k comes in a choice."""
    return is_odd_at(choice, k)


def chosen(ways, choice):
    """The list of the pushes that come in a choice, starts first."""
    starts, ins = ways
    return starts + [push for k, push in enumerate(ins) if comes(choice, k)]


def pushes_in(floor, ways, choice):
    """The list of the pushes that come in a choice, starts first, then ins, in order."""
    refuse_no_ways(floor, ways)
    if not is_whole_within(choice, 0, (1 << len(ways[1])) - 1):
        raise NoChoice("a choice is a whole number from 0 on, below 2 to the number of ins")
    return chosen(ways, choice)


def answer(floor, pushes, places):
    """The tuple of the beats at which places fall in the run by pushes, None where one doesn't."""
    falls = run(floor, pushes)[0]
    return tuple([falls.get(place) for place in places])


def answers(floor, ways, places):
    """The list of the answers of places to each choice, in order."""
    refuse_no_ways(floor, ways)
    floor.refuse_no_places(places)
    return [answer(floor, chosen(ways, choice), places) for choice in choices(len(ways[1]))]


def first_race(floor, ways):
    """The first race as a tuple (choice, beat, place), or None where no choice races."""
    refuse_no_ways(floor, ways)
    for choice in choices(len(ways[1])):
        found = races(floor, chosen(ways, choice))
        if found:
            beat, place = found[0]
            return (choice, beat, place)
    return None
