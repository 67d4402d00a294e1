"""Texts joined to images."""

from bitmill.deeds import words_of
from bitmill.errors import BadRow
from bitmill.forms import CALLS, JUMPS, goal_name, is_form, kinds_of, least_size
from bitmill.macros import exchanged_rows
from bitmill.reach import starts_of, widened
from bitmill.rows import REGISTERS, rows_of
from bitmill.sums import sum_of
from bitmill.words import IMAGE_MOST, WORD_MOST


def assembled(text):
    """The image of a text."""
    image, _ = joined(text)
    return image


def places(text):
    """The labels of a text, each with its place, by places, then names."""
    _, labels = joined(text)
    return sorted(list(labels.items()), key=lambda pair: (pair[1], pair[0]))


def joined(text):
    """The image of a text, and the place of each label; raises all that is refused."""
    rows = exchanged_rows(rows_of(text))
    numbers = numbers_of_labels(rows)
    sizes = sizes_of(rows, numbers)
    starts = starts_of(sizes)
    check_length(rows, starts)
    labels = {label: starts[number] for label, number in numbers.items()}
    names = dict(labels)
    image = []
    for number, row in enumerate(rows):
        names["here"] = starts[number]
        image.extend(row_words(row, sizes[number], names))
        if row.word == ".let":
            names[row.parts[0]] = sum_of(row.number, row.parts[1], "any", names)
    return tuple(image), labels


def numbers_of_labels(rows):
    """The number of the row, among those that macros came to, of each label; refuses wrong forms and names twice."""
    numbers = {}
    known = {}
    for number, row in enumerate(rows):
        if not is_form(row):
            raise BadRow(row.number, "form")
        if row.label is not None:
            numbers[row.label] = number
        for name in own_names(row):
            if name in known:
                raise BadRow(row.number, "twice")
            known[name] = True
    return numbers


def own_names(row):
    """The names to which a row gives a meaning."""
    names = [] if row.label is None else [row.label]
    return names + row.parts[:1] if row.word == ".let" else names


def sizes_of(rows, numbers):
    """How many words each row has; refuses goals that are no labels."""
    goals = []
    for row in rows:
        name = goal_name(row)
        if name is not None and name not in numbers:
            raise BadRow(row.number, "name")
        goals.append(numbers[name] if row.word in ("jump", "call") else None)
    return widened([least_size(row) for row in rows], goals)


def check_length(rows, starts):
    """Refuses the first row that ends behind what an image may have."""
    for number, row in enumerate(rows):
        if starts[number + 1] > IMAGE_MOST:
            raise BadRow(row.number, "long")


def row_words(row, size, names):
    """The words of a row that has so many; names tells what names are there."""
    match row.word:
        case "" | ".let":
            return ()
        case ".word":
            return tuple([sum_of(row.number, part, "short", names) & WORD_MOST for part in row.parts])
        case ".room":
            return words_of(("rest",), 0) * size
        case "fill":
            return fill_words(row, names)
        case "copy":
            d, a = row.parts
            return words_of(("plus", REGISTERS.index(d), REGISTERS.index(a), 0), 0)
        case _:
            return deed_words(row, size, names)


def fill_words(row, names):
    """The words of a fill: those of a set and of a high."""
    d = REGISTERS.index(row.parts[0])
    word = sum_of(row.number, row.parts[1], "word", names)
    return words_of(("set", d, word & 511), 0) + words_of(("high", d, word >> 9), 0)


def deed_words(row, size, names):
    """The words of a row that tells a deed by its own word."""
    if row.word in JUMPS:
        when = row.parts[1] if len(row.parts) == 2 else "always"
        deed = ("jump", when, names[row.parts[0]], size == 2)
    elif row.word in CALLS:
        deed = ("call", names[row.parts[0]], size == 2)
    else:
        deed = (row.word,) + deed_parts(row, names)
    words = words_of(deed, names["here"])
    if words is None:
        raise BadRow(row.number, "reach")
    return words


def deed_parts(row, names):
    """What a deed has behind its name, of a row with registers and sums."""
    kinds = kinds_of(row.word)
    parts = []
    for kind, part in zip(kinds, row.parts):
        if kind == "reg":
            parts.append(REGISTERS.index(part))
        else:
            parts.append(sum_of(row.number, part, kind, names))
    # Only the number of a load or store may be left out here.
    return tuple(parts) if len(parts) == len(kinds) else tuple(parts) + (0,)
