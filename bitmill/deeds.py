"""Deeds, and the words that they are."""

from bitmill.errors import BadCount, BadDeed, BadReach, NoDeed
from bitmill.words import IMAGE_MOST, checked_image, is_number

# Their order in these three is that of the numbers by which words tell them.
SINGLES = ("halt", "rest", "back", "say", "ask", "push", "pop")
SUMS = ("add", "less", "and", "or", "xor", "left", "right", "turn")
TIMES = ("always", "zero", "some", "carry", "clear", "minus", "over")

# What each deed has behind its name, in order.
PARTS = {
    "halt": (), "rest": (), "back": (),
    "say": ("reg",), "ask": ("reg",), "push": ("reg",), "pop": ("reg",),
    "add": ("reg", "reg", "reg"), "less": ("reg", "reg", "reg"),
    "and": ("reg", "reg", "reg"), "or": ("reg", "reg", "reg"), "xor": ("reg", "reg", "reg"),
    "left": ("reg", "reg", "reg"), "right": ("reg", "reg", "reg"), "turn": ("reg", "reg", "reg"),
    "plus": ("reg", "reg", "signed six"),
    "set": ("reg", "nine"), "high": ("reg", "seven"),
    "load": ("reg", "reg", "six"), "store": ("reg", "reg", "six"),
    "jump": ("when", "goal", "far"), "call": ("goal", "far"),
}

# The least and the greatest of each kind of number behind a deed's name.
SPANS = {
    "reg": (0, 7), "signed six": (-32, 31), "six": (0, 63), "seven": (0, 127), "nine": (0, 511),
    "goal": (0, 65535),
}


def is_part(kind, thing):
    """Whether a thing is one of the kind that is due behind a deed's name."""
    if kind == "when":
        return thing in TIMES
    if kind == "far":
        return isinstance(thing, bool)
    least, most = SPANS[kind]
    return is_number(thing, least, most)


def is_deed(thing):
    """Whether a thing is a deed."""
    if not isinstance(thing, tuple) or len(thing) == 0:
        return False
    name = thing[0]
    if not isinstance(name, str) or name not in PARTS:
        return False
    kinds = PARTS[name]
    if len(thing) != len(kinds) + 1:
        return False
    return all([is_part(kind, part) for kind, part in zip(kinds, thing[1:])])


def packed(deed, place=0):
    """The words of a deed that stands at a place."""
    if not is_deed(deed):
        raise BadDeed("that is no deed")
    if not is_number(place, 0, IMAGE_MOST - 1):
        raise BadCount("a place is a number from 0 to 199")
    words = words_of(deed, place)
    if words is None:
        raise BadReach("a near goal is at most 16 behind or 15 ahead of the next place")
    return words


def words_of(deed, place):
    """The words of what surely is a deed, at a place; None if its near goal isn't reached."""
    match deed:
        case ("jump", when, goal, far):
            return going_words(7, TIMES.index(when), goal, far, place)
        case ("call", goal, far):
            return going_words(9, 0, goal, far, place)
        case _:
            return (only_word(deed),)


def going_words(near_form, when, goal, far, place):
    """The words of a jump or call, whose far form is the one behind its near form; None as in words_of."""
    if far:
        return (fields(near_form + 1, when), goal)
    if not is_reached(place, goal):
        return None
    return (fields(near_form, when) | ((goal - place - 1) & 31),)


def is_reached(place, goal):
    """Whether a near jump or call at a place reaches a goal."""
    return -16 <= goal - place - 1 <= 15


def only_word(deed):
    """The word of a deed that is neither a jump nor a call."""
    match deed:
        case (name,):
            return fields(0, SINGLES.index(name))
        case (name, a):
            return fields(0, SINGLES.index(name), a)
        case ("set", d, n):
            return fields(3, d) | n
        case ("high", d, n):
            return fields(4, d) | n
        case ("plus", d, a, n):
            return fields(2, d, a) | (n & 63)
        case ("load", d, a, n):
            return fields(5, d, a) | n
        case ("store", d, a, n):
            return fields(6, d, a) | n
        case (name, d, a, b):
            return fields(1, d, a) | (b << 3) | SUMS.index(name)


def fields(form, first, second=0):
    """A word of a form, with three bits and three more behind it, and six that are 0."""
    return (form << 12) | (first << 9) | (second << 6)


def unpacked(image, place=0):
    """The deed that stands at a place of an image, and how many words it has."""
    words = checked_image(image)
    if not is_number(place, 0, len(words) - 1):
        raise BadCount("the image has no such place")
    met = deed_at(words, place)
    if met is None:
        raise NoDeed("no deed has these words")
    return met


def deed_at(words, place):
    """As unpacked, of a tuple of words that has such a place; None if there is no deed."""
    deed = guessed(words, place)
    if not is_deed(deed):
        return None
    # The guess looks at no bits that must be 0: the words of the deed tell whether they are.
    meant = words_of(deed, place)
    if words[place:place + len(meant)] != meant:
        return None
    return deed, len(meant)


def deeds_met(words):
    """Of all deeds from the first word on, one behind the other: place, deed, how many words it has.

    Where there is no deed, it is None, of one word.
    """
    met = []
    place = 0
    while place < len(words):
        found = deed_at(words, place)
        deed, many = (None, 1) if found is None else found
        met.append((place, deed, many))
        place += many
    return met


def goal_of(deed):
    """The goal of a jump or call; None of another deed, and where there is none."""
    if deed is None or deed[0] not in ("jump", "call"):
        return None
    return deed[-2]


def guessed(words, place):
    """The one tuple that may be the deed at a place; where none may be, what is no deed."""
    word = words[place]
    form, first, second = word >> 12, (word >> 9) & 7, (word >> 6) & 7
    match form:
        case 0:
            # A slice, since there is no deed of the number 7: then no name stands ahead.
            return SINGLES[first:first + 1] + ((second,) if first > 2 else ())
        case 1:
            return SUMS[word & 7], first, second, (word >> 3) & 7
        case 2:
            return "plus", first, second, signed(word & 63, 32)
        case 3:
            return "set", first, word & 511
        case 4:
            return "high", first, word & 127
        case 5:
            return "load", first, second, word & 63
        case 6:
            return "store", first, second, word & 63
        case _:
            return guessed_going(form, first, place + 1 + signed(word & 31, 16), words[place + 1:place + 2])


def guessed_going(form, first, near, behind):
    """As guessed, for the forms from 7 on; behind is a tuple of the word behind, if there is one."""
    when = TIMES[first:first + 1]
    match form:
        case 7:
            return ("jump",) + when + (near, False)
        case 8:
            return ("jump",) + when + behind + (True,)
        case 9:
            return "call", near, False
        case 10:
            return ("call",) + behind + (True,)
        case _:
            return ()


def signed(bits, half):
    """The number that bits tell, of which those from half on are of numbers below 0."""
    return bits - 2 * half if bits >= half else bits
