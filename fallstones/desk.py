"""A desk that keeps floors by names, and answers rows of words."""

from fallstones.errors import NoName, NoSay, NoText
from fallstones.floortexts import FIGURES, floor_text, read_floor
from fallstones.light import far
from fallstones.moves import beside, mirrored, turned
from fallstones.races import races
from fallstones.runs import run
from fallstones.timers import timer

LETTERS = "abcdefghijklmnopqrstuvwxyz"
MOST_LETTERS = 8
ROW_SIGN = "/"
DONE = "ok"
NEVER = "never"
# What stands behind each first word: new names, names by which floors are kept, and other things.
SHAPES = {
    "floor": ("new", "text"),
    "show": ("kept",),
    "run": ("kept", "pushes"),
    "when": ("kept", "place", "pushes"),
    "races": ("kept", "pushes"),
    "turn": ("kept",),
    "mirror": ("kept",),
    "beside": ("new", "kept", "kept"),
    "timer": ("new", "number"),
    "far": ("kept", "place", "place"),
}


def read_number(word):
    """The number that a word tells in figures, without noughts ahead."""
    if word == "" or word.strip(FIGURES) != "" or (word[0] == "0" and word != "0"):
        raise NoSay("a number is told in figures, without noughts ahead")
    return int(word)


def read_place(word):
    """The tuple (x, y, line) that a word tells; whether a stone stands there isn't asked here."""
    numbers = word.split(",")
    if len(numbers) != 3:
        raise NoSay("a place is told as x,y,line")
    return tuple([read_number(number) for number in numbers])


def read_push(word):
    """The tuple (place, beat) that a word tells."""
    halves = word.split("@")
    if len(halves) != 2:
        raise NoSay("a push is told as x,y,line@beat")
    return (read_place(halves[0]), read_number(halves[1]))


def read_word(sort, word):
    """What a word tells where something of a sort has to stand."""
    if sort == "number":
        return read_number(word)
    if sort == "place":
        return read_place(word)
    return word


def words_of(row):
    """The words of a row, of which a text, behind a name, is one, whatever blanks it has."""
    if not isinstance(row, str):
        raise NoSay("a row is a text")
    words = row.split(" ", 2) if row.startswith("floor ") else row.split(" ")
    if "" in words:
        raise NoSay("between two words there is just one blank")
    return words


def read_things(shape, words):
    """The list of what words tell in a shape, all pushes as one list."""
    single = [sort for sort in shape if sort != "pushes"]
    has_pushes = "pushes" in shape
    if len(words) < len(single) or (len(words) > len(single) and not has_pushes):
        raise NoSay("there are too few words, or too many")
    things = [read_word(sort, word) for sort, word in zip(single, words)]
    if has_pushes:
        things.append([read_push(word) for word in words[len(single):]])
    return things


def is_name(word):
    """Whether a word is a name."""
    return 1 <= len(word) <= MOST_LETTERS and all([letter in LETTERS for letter in word])


def refuse_no_names(kept, shape, things):
    """Refuse new names that are none, and others by which nothing is kept."""
    for sort, thing in zip(shape, things):
        if sort == "new" and not is_name(thing):
            raise NoName("a name is a text of one to eight small letters")
        if sort == "kept" and thing not in kept:
            raise NoName("nothing is kept by that name")


def say_floor(kept, name, text):
    """Keep the floor whose text is told."""
    if "\n" in text:
        raise NoText("rows are told apart by another sign than the line feed here")
    kept[name] = read_floor(text.replace(ROW_SIGN, "\n") + "\n")
    return DONE


def say_show(kept, name):
    """The text of a floor, without line feeds."""
    return floor_text(kept[name])[:-1].replace("\n", ROW_SIGN)


def say_run(kept, name, pushes):
    """How many stones fall, and how many are stopped."""
    falls, stopped = run(kept[name], pushes)
    return f"{len(falls)} {len(stopped)}"


def beat_text(beat):
    """The text of a beat that may be None."""
    return NEVER if beat is None else str(beat)


def say_when(kept, name, place, pushes):
    """The beat at which a place falls."""
    floor = kept[name]
    floor.refuse_no_place(place)
    return beat_text(run(floor, pushes)[0].get(place))


def race_text(beat, place):
    """The text of one race."""
    x, y, line = place
    return f"{beat}:{x},{y},{line}"


def say_races(kept, name, pushes):
    """All races, in order."""
    found = races(kept[name], pushes)
    return " ".join([race_text(beat, place) for beat, place in found]) if found else "none"


def say_turn(kept, name):
    """Turn a floor."""
    kept[name] = turned(kept[name])
    return DONE


def say_mirror(kept, name):
    """Mirror a floor."""
    kept[name] = mirrored(kept[name])
    return DONE


def say_beside(kept, name, one, other):
    """Keep the floor that has another one beside the one."""
    kept[name] = beside(kept[one], kept[other])
    return DONE


def say_timer(kept, name, k):
    """Keep a timer's floor."""
    kept[name] = timer(k)[0]
    return DONE


def say_far(kept, name, one, other):
    """How far it is from one place to another."""
    return beat_text(far(kept[name], one, other))


ACTIONS = {
    "floor": say_floor,
    "show": say_show,
    "run": say_run,
    "when": say_when,
    "races": say_races,
    "turn": say_turn,
    "mirror": say_mirror,
    "beside": say_beside,
    "timer": say_timer,
    "far": say_far,
}


class Desk:
    """A desk that keeps floors by names."""

    def __init__(self):
        self.kept = {}

    def say(self, row):
        """The answer to a row of words."""
        words = words_of(row)
        first = words[0]
        if first not in SHAPES:
            raise NoSay("a row starts with one of the desk's words")
        things = read_things(SHAPES[first], words[1:])
        refuse_no_names(self.kept, SHAPES[first], things)
        action = ACTIONS[first]
        return action(self.kept, *things)
