"""What is so at a net's nodes in each choice of ways in, told as tables."""

from fallstones.errors import NoNumber
from fallstones.nets import MOST_ARRIVALS, refuse_no_net, ways_needed
from fallstones.ways import choices, comes
from fallstones.wholes import is_odd_at, is_whole_within


def table_of(choices_so):
    """The table of what is so in the choices told."""
    return sum([1 << choice for choice in choices_so])


def is_so_in(table, choice):
    """Whether a choice is one of those in which a table is so."""
    return is_odd_at(table, choice)


def node_table(node, tables, n):
    """The table of a node for n ways in, by the tables of the earlier ones."""
    word = node[0]
    if word == "in":
        return table_of([choice for choice in choices(n) if comes(choice, node[1])])
    if word == "go":
        return table_of(choices(n))
    if word == "late":
        return tables[node[1]]
    if word == "or":
        return tables[node[1]] | tables[node[2]]
    if word == "both":
        return tables[node[1]] & tables[node[2]]
    return tables[node[1]] - (tables[node[1]] & tables[node[2]])


def tables_of(net, n):
    """The list of the tables of a net's nodes for n ways in."""
    refuse_no_net(net)
    if not is_whole_within(n, ways_needed(net), MOST_ARRIVALS):
        raise NoNumber("a net has from 1 to 6 ways in, more than each k of its ins")
    tables = []
    for node in net:
        tables.append(node_table(node, tables, n))
    return tables


def unlesses(net):
    """How many nodes of a net are an unless."""
    refuse_no_net(net)
    return len([node for node in net if node[0] == "unless"])
