"""Floors turned, mirrored and put side by side, and where their places come to."""

from fallstones.errors import NoRoom
from fallstones.floors import MOST_CELLS, Floor
from fallstones.kinds import BRIDGE

# All letters of kinds: a kind has its capital ahead of its small letters, and no letter twice.
LETTERS = "NESWneswx"
TURNED_LETTERS = "ESWNeswnx"
MIRRORED_LETTERS = "NWSEnwsex"


def moved_kind(kind, onto):
    """The kind with each of its letters changed to the one that stands in its stead among the letters told."""
    moved = [onto[LETTERS.index(letter)] for letter in kind]
    return "".join([letter for letter in LETTERS if letter in moved])


def moved_stone(stone, onto):
    """The stone with the letters of its kind changed so."""
    return (moved_kind(stone[0], onto), stone[1])


def turned_cell(floor, cell):
    """The cell to which a cell of the floor comes when it is turned."""
    return (floor.high() - 1 - cell[1], cell[0])


def mirrored_cell(floor, cell):
    """The cell to which a cell of the floor comes when it is mirrored."""
    return (floor.wide() - 1 - cell[0], cell[1])


def turned(floor):
    """The floor turned by a quarter to the right."""
    stones = floor.stones()
    moved = {turned_cell(floor, cell): moved_stone(stones[cell], TURNED_LETTERS) for cell in stones}
    return Floor(floor.high(), floor.wide(), moved)


def mirrored(floor):
    """The floor with its east and west changed about."""
    stones = floor.stones()
    moved = {mirrored_cell(floor, cell): moved_stone(stones[cell], MIRRORED_LETTERS) for cell in stones}
    return Floor(floor.wide(), floor.high(), moved)


def turned_place(floor, place):
    """The place to which a place of the floor comes when it is turned."""
    floor.refuse_no_place(place)
    x, y = turned_cell(floor, (place[0], place[1]))
    # What went from west to east on a bridge goes from north to south now.
    line = 1 - place[2] if floor.kind(place) == BRIDGE else place[2]
    return (x, y, line)


def mirrored_place(floor, place):
    """The place to which a place of the floor comes when it is mirrored."""
    floor.refuse_no_place(place)
    x, y = mirrored_cell(floor, (place[0], place[1]))
    return (x, y, place[2])


def beside(one, other):
    """The floor that has another one to the east of the one, their first rows side by side."""
    wide = one.wide() + other.wide()
    if wide > MOST_CELLS:
        raise NoRoom("a floor is at most 60 cells wide")
    stones = one.stones()
    eastern = other.stones()
    for x, y in eastern:
        stones[(one.wide() + x, y)] = eastern[(x, y)]
    return Floor(wide, max(one.high(), other.high()), stones)
