"""Macros: rows that stand for other rows."""

from bitmill.errors import BadRow
from bitmill.forms import is_told
from bitmill.rows import Row, is_name, parts_of

ROWS_MOST = 300
PARAMETERS_MOST = 4
WITHIN_MOST = 5


class Macro:
    """A macro: its parameters, each with the text that stands for it or None, and the texts of its rows."""

    def __init__(self, parameters, texts):
        self.parameters = parameters
        self.texts = texts


class Exchange:
    """The rows of a text, from the first on, with rows that call a macro exchanged for the macro's."""

    def __init__(self):
        self.rows = []
        self.macros = {}
        self.calls = 0

    def tell(self, row, later):
        """Keeps the macro that a row begins, later being the texts behind it; tells how many of them it takes."""
        name, _, behind = row.rest.partition(" ")
        name = name.lower()
        parameters = parameters_of(behind)
        many = rows_ahead_of_end(later)
        if row.label is not None or not self.is_free(name) or parameters is None or many is None:
            raise BadRow(row.number, "macro")
        self.macros[name] = Macro(parameters, later[:many])
        return many + 1

    def is_free(self, name):
        """Whether a macro may be called so."""
        return is_name(name) and not is_told(name) and name not in self.macros

    def put(self, row, within):
        """Puts a row, or all those for which it stands, behind the ones so far.

        within tells how many calls it comes from, one within the other.
        """
        if row.word in self.macros:
            self.put_called(row, within + 1)
        elif row.word == ".macro":
            raise BadRow(row.number, "macro")
        else:
            self.put_one(row)

    def put_called(self, row, within):
        """Puts the rows for which a row stands that calls a macro."""
        macro = self.macros[row.word]
        told = told_texts(macro, row)
        if within > WITHIN_MOST:
            raise BadRow(row.number, "macro")
        mark = f"q{self.calls}"
        self.calls += 1
        if row.label is not None:
            self.put_one(Row(row.number, row.label + ":"))
        for text in macro.texts:
            inner = Row(row.number, exchanged(text, told, mark))
            check_label(inner)
            self.put(inner, within)

    def put_one(self, row):
        """Puts a row that stands for itself."""
        if len(self.rows) == ROWS_MOST:
            raise BadRow(row.number, "long")
        self.rows.append(row)


def exchanged_rows(texts):
    """The rows to which the texts of rows come when all macros are exchanged."""
    exchange = Exchange()
    at = 0
    while at < len(texts):
        row = Row(at, texts[at])
        check_label(row)
        at += 1
        if row.word == ".macro":
            at += exchange.tell(row, texts[at:])
        else:
            exchange.put(row, 0)
    return exchange.rows


def check_label(row):
    """Refuses a row whose label is no name."""
    if row.label is not None and not is_name(row.label):
        raise BadRow(row.number, "form")


def rows_ahead_of_end(texts):
    """How many texts of rows stand ahead of the first .end; None if there is none."""
    ends = [at for at, text in enumerate(texts) if text.lower() == ".end"]
    return ends[0] if len(ends) > 0 else None


def parameters_of(text):
    """The parameters that a .macro row tells behind its name, in their order; None if they may not be."""
    parameters = {}
    for part in parts_of(text):
        name, sign, behind = part.partition("=")
        name = name.strip().lower()
        if not is_name(name) or name in parameters:
            return None
        parameters[name] = behind.strip() if sign == "=" else None
    return parameters if len(parameters) <= PARAMETERS_MOST else None


def told_texts(macro, row):
    """The text of each parameter of a macro, in the order of the parameters, that a row calls."""
    parts = {}
    for place, part in enumerate(row.texts):
        name, text = name_and_text(macro, place, part)
        if name not in macro.parameters or name in parts:
            raise BadRow(row.number, "macro")
        parts[name] = text
    told = {}
    for name, default in macro.parameters.items():
        told[name] = parts.get(name, default)
        if told[name] is None:
            raise BadRow(row.number, "macro")
    return told


def name_and_text(macro, place, part):
    """For which parameter a part at a place is, and its text; a part too many is for one without a name."""
    name, sign, text = part.partition("=")
    if sign == "=":
        return name.strip().lower(), text.strip()
    names = list(macro.parameters)
    return (names[place] if place < len(names) else ""), part


def exchanged(text, told, mark):
    """The text of a macro's row with the texts of its parameters, and the mark of its call, in it."""
    for name, part in told.items():
        text = exchanged_one(text, "{" + name + "}", part)
    return text.replace("@", mark)


def exchanged_one(text, braced, part):
    """A text with a part in the place of each parameter that is braced so, whether its letters are great or small."""
    pieces = []
    begin = 0
    for piece in text.lower().split(braced):
        pieces.append(text[begin:begin + len(piece)])
        begin += len(piece) + len(braced)
    return part.join(pieces)
