"""Nets for tables with as few unlesses as can be, and rising rows that show that fewer don't do."""

from fallstones.errors import CantBe
from fallstones.netmakers import NetMaker
from fallstones.rising import best_rows, is_within, most_falls, refuse_no_tables
from fallstones.tables import is_so_in
from fallstones.ways import choices, comes

NOTHING_COMES = 0


def least_of(told):
    """Those of some choices that have all ins of no other one of them."""
    return [choice for choice in told if not any([is_within(other, choice) for other in told if other != choice])]


def ins_node(maker, n, always, choice):
    """The number of a node that is so where all ins of a choice come."""
    if choice == NOTHING_COMES:
        return always
    return maker.all_of([maker.put(("in", k)) for k in range(n) if comes(choice, k)])


def rising_node(maker, n, always, told):
    """The number of a node that is so in some choices and in all that have more ins, or None for no choices."""
    return maker.any_of([ins_node(maker, n, always, choice) for choice in least_of(told)])


def unreached(maker, always, reached):
    """The numbers of nodes that are so where those of a list aren't, by as few unlesses as can be.

    Each node of the list is so only where the one ahead of it is. One unless
    tells in which half of the list the last one is that is so; where it is in
    the second half, the second half's nodes take the places of the first one's,
    so that the same unlesses serve both halves.
    """
    if not reached:
        return []
    half = (1 << (len(reached).bit_length() - 1)) - 1
    low = reached[:half]
    high = reached[half + 1:]
    is_low = maker.put(("unless", always, reached[half]))
    merged = [maker.all_of([is_low, node]) for node in low]
    for at, node in enumerate(high):
        merged[at] = maker.any_of([merged[at], node])
    inner = unreached(maker, always, merged)
    lows = [maker.all_of([is_low, node]) for node in inner]
    highs = [maker.any_of([is_low, node]) for node in inner[:len(high)]]
    return lows + [is_low] + highs


def all_but_always(maker, always, nodes):
    """The number of a node that is so where all of some nodes are, by no more nodes than that needs."""
    narrow = [node for node in nodes if node != always]
    return maker.all_of(narrow) if narrow else always


def table_node(maker, n, always, table, levels, ends):
    """The number of a node that tells a table, or None for the table 0.

    Levels are how many falls may lie behind each choice: among the choices of
    one level the table never falls. An end is a node that is so up to a level.
    """
    parts = []
    for level, end in enumerate(ends):
        told = [choice for choice in choices(n) if levels[choice] == level and is_so_in(table, choice)]
        if told:
            parts.append(all_but_always(maker, always, [rising_node(maker, n, always, told), end]))
    return maker.any_of(parts)


def always_node(maker, n, tables):
    """The number of a node that is so in each choice in which a table may be so."""
    if any([is_so_in(table, NOTHING_COMES) for table in tables]):
        return maker.put(("go",))
    return maker.any_of([maker.put(("in", k)) for k in range(n)])


def net_for(n, tables, has_go):
    """A net that tells tables with as few unlesses as can be: a tuple (net, outs, row)."""
    refuse_no_tables(n, tables)
    if not has_go and any([is_so_in(table, NOTHING_COMES) for table in tables]):
        raise CantBe("where nothing is pushed nothing falls")
    falls, row = most_falls(n, tables)
    levels = [most for most, best in best_rows(n, tables)]
    maker = NetMaker()
    always = always_node(maker, n, tables)
    reached = [
        rising_node(maker, n, always, [choice for choice in choices(n) if levels[choice] >= level])
        for level in range(1, falls + 1)
    ]
    ends = unreached(maker, always, reached) + [always]
    outs = [table_node(maker, n, always, table, levels, ends) for table in tables]
    return (maker.made, outs, row)
