"""Rising rows of choices, and how often tables fall along them."""

from fallstones.errors import NoNumber, NoRow, NoTables
from fallstones.tables import is_so_in
from fallstones.ways import choices
from fallstones.wholes import is_whole_within

MOST_WAYS = 4
MOST_TABLES = 3


def refuse_no_tables(n, tables):
    """Refuse a number of ways in that is none, and what are no tables for it."""
    if not is_whole_within(n, 1, MOST_WAYS):
        raise NoNumber("tables are for 1 to 4 ways in")
    if not isinstance(tables, list) or not 1 <= len(tables) <= MOST_TABLES:
        raise NoTables("tables are a list of one to three")
    if not all([is_whole_within(table, 0, (1 << (1 << n)) - 1) for table in tables]):
        raise NoTables("a table is a whole number that has a bit for each choice")


def is_within(choice, other):
    """Whether another choice has all ins that a choice has."""
    return choice & other == choice


def is_rising_row(n, thing):
    """Whether a thing is a rising row of choices of n ways in."""
    if not isinstance(thing, list) or len(thing) == 0:
        return False
    if not all([is_whole_within(choice, 0, (1 << n) - 1) for choice in thing]):
        return False
    return all([ahead != choice and is_within(ahead, choice) for ahead, choice in zip(thing, thing[1:])])


def is_fall(tables, ahead, choice):
    """Whether some table is so in the choice ahead, and not so in the other one."""
    return any([is_so_in(table, ahead) and not is_so_in(table, choice) for table in tables])


def falls_on(n, tables, row):
    """How many falls tables have along a rising row."""
    refuse_no_tables(n, tables)
    if not is_rising_row(n, row):
        raise NoRow("a rising row is a list of unlike choices, each having all ins that the one ahead has")
    return len([choice for ahead, choice in zip(row, row[1:]) if is_fall(tables, ahead, choice)])


def best_row_to(tables, choice, best):
    """The most falls of a rising row that ends at a choice, and such a row, by those that end at the lesser ones."""
    most = 0
    row = [choice]
    for ahead in range(choice):
        if is_within(ahead, choice):
            falls = best[ahead][0] + (1 if is_fall(tables, ahead, choice) else 0)
            if falls > most:
                most = falls
                row = best[ahead][1] + [choice]
    return (most, row)


def best_rows(n, tables):
    """For each choice, in order, the most falls of a rising row that ends at it, and such a row, as a tuple."""
    best = []
    for choice in choices(n):
        best.append(best_row_to(tables, choice, best))
    return best


def most_falls(n, tables):
    """The most falls that tables have along a rising row, and such a row, as a tuple."""
    refuse_no_tables(n, tables)
    return max(best_rows(n, tables), key=lambda told: told[0])
