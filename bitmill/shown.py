"""Images shown: as a text that comes to them, and word by word."""

from bitmill.deeds import PARTS, deeds_met, goal_of
from bitmill.words import checked_image

HEADS = ("place", "word", "bits", "deed")


def shown(image):
    """A text of which assembled tells the image."""
    words = checked_image(image)
    told = told_deeds(words)
    goals = {goal_of(deed): True for place, deed, many in told}
    rows = []
    for place, deed, many in told:
        label = f"p{place}: " if place in goals else ""
        rows.append(label + (word_row(words[place:place + many]) if deed is None else deed_row(deed)))
    if len(words) in goals:
        rows.append(f"p{len(words)}:")
    return "\n".join(rows)


def told_deeds(words):
    """As deeds_met, but None for a deed, too, whose goal no label of a row can be."""
    met = deeds_met(words)
    ends = {place: True for place, deed, many in met}
    ends[len(words)] = True
    # Most deeds have no goal, and are told.
    ends[None] = True
    return [(place, deed if goal_of(deed) in ends else None, many) for place, deed, many in met]


def word_row(words):
    """The row of words that are told as they are."""
    return ".word " + ", ".join([f"0x{word:04x}" for word in words])


def deed_row(deed):
    """The row of a deed."""
    match deed:
        case ("jump", when, goal, far):
            return f"jump.{reach_word(far)} p{goal}, {when}"
        case ("call", goal, far):
            return f"call.{reach_word(far)} p{goal}"
        case (name,):
            return name
        case _:
            kinds = PARTS[deed[0]]
            parts = [f"r{part}" if kind == "reg" else str(part) for kind, part in zip(kinds, deed[1:])]
            return deed[0] + " " + ", ".join(parts)


def reach_word(far):
    return "far" if far else "near"


def listing(image, wide=0):
    """Rows that tell each word of an image; their last part is at least so wide."""
    rows = [HEADS] + word_parts(checked_image(image))
    widths = [max([len(row[column]) for row in rows]) for column in range(len(HEADS))]
    widths[-1] = max(widths[-1], wide)
    dashes = tuple(["-" * width for width in widths])
    return [joined_parts(row, widths) for row in rows[:1] + [dashes] + rows[1:]]


def word_parts(words):
    """Of each word: its place, its figures, its bits, and the deed that begins there, all as texts."""
    parts = []
    for place, deed, many in deeds_met(words):
        told = "?" if deed is None else deed_row(deed)
        for at in range(place, place + many):
            parts.append((str(at), f"{words[at]:04x}", f"{words[at]:016b}", told if at == place else ""))
    return parts


def joined_parts(row, widths):
    """The parts of a row, each so wide, in one text."""
    parts = [row[0].rjust(widths[0])]
    for part, width in zip(row[1:], widths[1:]):
        parts.append(part.ljust(width))
    return " ".join(parts).rstrip()
