"""Floors written as texts, and read again."""

from fallstones.errors import NoText
from fallstones.floors import MOST_CELLS, Floor
from fallstones.kinds import is_kind

BARE = "."
FIGURES = "0123456789"
MOST_FIGURES = 4


def cell_text(stones, cell):
    """The text of one cell."""
    if cell not in stones:
        return BARE
    kind, beats = stones[cell]
    return f"{kind}{beats}"


def row_text(stones, wide, y):
    """The text of one row of cells, with its line feed."""
    return " ".join([cell_text(stones, (x, y)) for x in range(wide)]) + "\n"


def floor_text(floor):
    """The text of a floor."""
    stones = floor.stones()
    return "".join([row_text(stones, floor.wide(), y) for y in range(floor.high())])


def read_stone(word):
    """The stone that a word tells."""
    kind = word.rstrip(FIGURES)
    figures = word[len(kind):]
    if not is_kind(kind):
        raise NoText("a cell is a point, or a kind and beats")
    if not 1 <= len(figures) <= MOST_FIGURES or figures[0] == "0":
        raise NoText("beats are from 1 to 9,999, without noughts ahead")
    return (kind, int(figures))


def read_rows(text):
    """The rows of a text, as lists of words: from 1 to 60 of them, alike long and not too long."""
    if not isinstance(text, str) or not text.endswith("\n"):
        raise NoText("each row is ended by a line feed")
    rows = [row.split(" ") for row in text[:-1].split("\n")]
    if len(rows) > MOST_CELLS or len(rows[0]) > MOST_CELLS:
        raise NoText("a floor is at most 60 cells wide and high")
    if any([len(row) != len(rows[0]) for row in rows]):
        raise NoText("all rows have as many cells")
    return rows


def read_floor(text):
    """The floor whose text is told."""
    rows = read_rows(text)
    stones = {}
    for y, row in enumerate(rows):
        for x, word in enumerate(row):
            if word != BARE:
                stones[(x, y)] = read_stone(word)
    return Floor(len(rows[0]), len(rows), stones)
