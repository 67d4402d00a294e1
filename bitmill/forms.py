"""The words that rows may have, and the kinds of the parts behind them."""

from bitmill.deeds import PARTS, TIMES
from bitmill.rows import REGISTERS, is_name, number_of
from bitmill.words import is_number

# What rows have behind words that aren't just those of deeds. "reg", "when", "name" and "room" are told
# as they are; all other kinds, here and of deeds, are those of sums.
OWN_KINDS = {
    "copy": ("reg", "reg"), "fill": ("reg", "word"),
    "jump": ("name", "when"), "jump.near": ("name", "when"), "jump.far": ("name", "when"),
    "call": ("name",), "call.near": ("name",), "call.far": ("name",),
    ".room": ("room",), ".let": ("name", "any"),
}

# Their last part may be left out.
SHORTER = ("load", "store", "jump", "jump.near", "jump.far", ".room")

JUMPS = ("jump", "jump.near", "jump.far")
CALLS = ("call", "call.near", "call.far")

ROOM_MOST = 50


def is_told(word):
    """Whether a deed, or another word of rows that could be a macro's name, is called so."""
    return word in PARTS or word in OWN_KINDS


def kinds_of(word):
    """The kinds of the parts behind a word that is_told."""
    return OWN_KINDS[word] if word in OWN_KINDS else PARTS[word]


def is_form(row):
    """Whether a row is empty, or has a word, and behind it parts as they are due; sums aren't looked at."""
    if row.word == "":
        return True
    if row.word == ".word":
        return len(row.parts) > 0 and "" not in row.parts
    if not is_told(row.word):
        return False
    kinds = kinds_of(row.word)
    lacking = len(kinds) - len(row.parts)
    if lacking != 0 and not (lacking == 1 and row.word in SHORTER):
        return False
    return all([fits(kind, part) for kind, part in zip(kinds, row.parts)])


def fits(kind, part):
    """Whether a part is one of a kind; of a sum, whether there is one."""
    match kind:
        case "reg":
            return part in REGISTERS
        case "when":
            return part in TIMES
        case "name":
            return is_name(part)
        case "room":
            return is_number(number_of(part), 1, ROOM_MOST)
        case _:
            return part != ""


def goal_name(row):
    """The name of a row's goal; None if the row has none."""
    return row.parts[0] if row.word in JUMPS or row.word in CALLS else None


def least_size(row):
    """How many words a row has at least, jumps and calls being near where they may be."""
    match row.word:
        case "" | ".let":
            return 0
        case ".word":
            return len(row.parts)
        case ".room":
            return number_of(row.parts[0]) if len(row.parts) == 1 else 1
        case "fill" | "jump.far" | "call.far":
            return 2
        case _:
            return 1
