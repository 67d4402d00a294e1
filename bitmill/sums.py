"""Sums in rows."""

from bitmill.deeds import SPANS
from bitmill.errors import BadRow
from bitmill.rows import is_name, number_of

SIGNS = "+-*&|^<>"
TOTAL_MOST = 1000000000
OFTEN_MOST = 16

# The least and the greatest of the sums of each kind that deeds don't have.
OWN_SPANS = {"word": (0, 65535), "short": (-32768, 65535), "any": (-1000000000, 1000000000)}


def sum_of(number, text, kind, names):
    """What a sum in the row of a number comes to, if a part of its kind may; names tells what names are."""
    total = 0
    for sign, piece in pieces(text):
        total = reckoned_on(number, total, sign, worth(number, piece, names))
    least, most = OWN_SPANS[kind] if kind in OWN_SPANS else SPANS[kind]
    if not least <= total <= most:
        raise BadRow(number, "number")
    return total


def pieces(text):
    """The numbers and names of a sum, each with the sign ahead of it; the first is reckoned on from 0."""
    found = []
    sign, begin = ("-", 1) if text.startswith("-") else ("+", 0)
    for at in range(begin, len(text)):
        if text[at] in SIGNS:
            found.append((sign, text[begin:at].strip()))
            sign, begin = text[at], at + 1
    found.append((sign, text[begin:].strip()))
    return found


def worth(number, piece, names):
    """The number that a piece of a sum is."""
    if piece in names:
        return names[piece]
    if is_name(piece):
        raise BadRow(number, "name")
    told = number_of(piece)
    if told is None:
        raise BadRow(number, "number")
    return told


def reckoned_on(number, total, sign, other):
    """What comes of a sum so far, with one sign and piece more."""
    if sign in "<>" and not 0 <= other <= OFTEN_MOST:
        raise BadRow(number, "number")
    came = signed_sum(total, sign, other)
    if not -TOTAL_MOST <= came <= TOTAL_MOST:
        raise BadRow(number, "number")
    return came


def signed_sum(total, sign, other):
    """What two numbers with a sign between come to."""
    match sign:
        case "+":
            return total + other
        case "-":
            return total - other
        case "*":
            return total * other
        case "&":
            return total & other
        case "|":
            return total | other
        case "^":
            return total ^ other
        case "<":
            return total << other
        case _:
            return total >> other
