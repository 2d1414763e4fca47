"""Kinds of stones, their sides, and stones."""

from fallstones.wholes import is_whole_within

SIDES = "nesw"
OPPOSITES = {"n": "s", "e": "w", "s": "n", "w": "e"}
ACROSS = {"n": ("e", "w"), "e": ("n", "s"), "s": ("e", "w"), "w": ("n", "s")}
OUT_SIDES = {"N": "n", "E": "e", "S": "s", "W": "w"}
BRIDGE = "x"
MOST_BEATS = 9999


def in_order(text):
    """Whether a text's letters are sides, each once, in the order nesw."""
    return text == "".join([side for side in SIDES if side in text])


def sort_of(text):
    """The word for the sort of kind that a text is, or the text without signs if it is no kind."""
    if text == BRIDGE:
        return "bridge"
    if 2 <= len(text) <= 4 and in_order(text):
        return "open"
    out = OUT_SIDES.get(text[:1], "")
    if out == "":
        return ""
    small = text[1:]
    if small == "":
        return "one-way"
    if small in ACROSS[out]:
        return "block"
    if len(small) == 2 and in_order(small) and out not in small:
        return "heavy"
    return ""


def is_kind(thing):
    """Whether a thing is a kind of stones."""
    return isinstance(thing, str) and sort_of(thing) != ""


def is_stone(thing):
    """Whether a thing is a stone: a tuple of a kind and its beats."""
    if not isinstance(thing, tuple) or len(thing) != 2:
        return False
    return is_kind(thing[0]) and is_whole_within(thing[1], 1, MOST_BEATS)


def ins_of(kind):
    """The in sides of a kind that is no bridge."""
    sort = sort_of(kind)
    if sort == "open":
        return kind
    if sort == "heavy":
        return kind[1:]
    return OPPOSITES[OUT_SIDES[kind[0]]]


def outs_of(kind):
    """The out sides of a kind that is no bridge."""
    if sort_of(kind) == "open":
        return kind
    return OUT_SIDES[kind[0]]


def stop_of(kind):
    """The stop side of a kind, or the text without signs if it is no block."""
    if sort_of(kind) == "block":
        return kind[1]
    return ""
