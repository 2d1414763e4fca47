"""Floors, the places on them, and which place knocks or stops which."""

from fallstones.errors import NoFloor, NoPlace
from fallstones.kinds import BRIDGE, OPPOSITES, ins_of, is_stone, outs_of, stop_of
from fallstones.wholes import is_whole, is_whole_within

MOST_CELLS = 60
STEPS = {"n": (0, -1), "e": (1, 0), "s": (0, 1), "w": (-1, 0)}


def is_cell(thing, wide, high):
    """Whether a thing is a cell of a floor that is so wide and high."""
    if not isinstance(thing, tuple) or len(thing) != 2:
        return False
    return is_whole_within(thing[0], 0, wide - 1) and is_whole_within(thing[1], 0, high - 1)


def refuse_no_floor(wide, high, stones):
    """Refuse what no floor can be made of."""
    if not is_whole_within(wide, 1, MOST_CELLS) or not is_whole_within(high, 1, MOST_CELLS):
        raise NoFloor("a floor is from 1 to 60 cells wide and high")
    if not isinstance(stones, dict):
        raise NoFloor("stones are a dict from cells to stones")
    for cell in stones:
        if not is_cell(cell, wide, high):
            raise NoFloor("stones stand on cells of the floor")
        if not is_stone(stones[cell]):
            raise NoFloor("on a cell stands a stone, a tuple of a kind and its beats")


def lines_of(kind):
    """The tuples (in sides, out sides, stop side) of the stones that a kind puts on one cell, line by line."""
    if kind == BRIDGE:
        return [("ew", "ew", ""), ("ns", "ns", "")]
    return [(ins_of(kind), outs_of(kind), stop_of(kind))]


def sides_by_place(stones):
    """A dict from the places where stones stand to their tuples (in sides, out sides, stop side)."""
    return {(x, y, line): sides for x, y in stones for line, sides in enumerate(lines_of(stones[(x, y)][0]))}


class Floor:
    """A floor of cells with stones on some of them; it never changes."""

    def __init__(self, wide, high, stones):
        refuse_no_floor(wide, high, stones)
        self.width = wide
        self.height = high
        self.standing = {cell: stones[cell] for cell in stones}
        self.sides = sides_by_place(self.standing)

    def wide(self):
        """How many cells the floor is wide."""
        return self.width

    def high(self):
        """How many cells the floor is high."""
        return self.height

    def stones(self):
        """A dict from the cells where something stands to the stones."""
        return {cell: self.standing[cell] for cell in self.standing}

    def places(self):
        """The sorted list of all places."""
        return sorted(self.sides)

    def has_place(self, thing):
        """Whether a thing is a place of this floor."""
        return isinstance(thing, tuple) and all([is_whole(part) for part in thing]) and thing in self.sides

    def refuse_no_place(self, thing):
        """Refuse what is no place of this floor."""
        if not self.has_place(thing):
            raise NoPlace("a place is a tuple (x, y, line) at which a stone stands")

    def refuse_no_places(self, things):
        """Refuse what is no list of places of this floor."""
        if not isinstance(things, list):
            raise NoPlace("places are told as a list")
        for thing in things:
            self.refuse_no_place(thing)

    def kind(self, place):
        """The kind of the stone at a place."""
        self.refuse_no_place(place)
        return self.standing[(place[0], place[1])][0]

    def beats(self, place):
        """The beats of the stone at a place."""
        self.refuse_no_place(place)
        return self.standing[(place[0], place[1])][1]

    def knocked(self, place):
        """The sorted list of the places that a place knocks."""
        return sorted([other for met, other in self.met_by(place) if met in self.sides[other][0]])

    def stopped(self, place):
        """The sorted list of the places that a place stops."""
        return sorted([other for met, other in self.met_by(place) if met == self.sides[other][2]])

    def knockers(self, place):
        """The sorted list of the places that knock a place."""
        self.refuse_no_place(place)
        return self.meeting(place, self.sides[place][0])

    def stoppers(self, place):
        """The sorted list of the places that stop a place."""
        self.refuse_no_place(place)
        return self.meeting(place, self.sides[place][2])

    def met_by(self, place):
        """The places beside a place at its out sides, each behind the side of its own that is met."""
        self.refuse_no_place(place)
        outs = self.sides[place][1]
        return [(OPPOSITES[side], other) for side in outs for other in self.beside_at(place, side)]

    def meeting(self, place, sides):
        """The sorted list of the places beside a place at one of the sides that have an out side towards it."""
        near = [(OPPOSITES[side], other) for side in sides for other in self.beside_at(place, side)]
        return sorted([other for out, other in near if out in self.sides[other][1]])

    def beside_at(self, place, side):
        """The places on the cell beside a place at a side."""
        east, south = STEPS[side]
        lines = [(place[0] + east, place[1] + south, line) for line in (0, 1)]
        return [other for other in lines if other in self.sides]
