"""Rows of a text: what stands in them, and the names and numbers there."""

LETTERS = "abcdefghijklmnopqrstuvwxyz"
FIGURES = "0123456789"
WORD_SIGNS = "abcdefghijklmnopqrstuvwxyzABCDEFGHIJKLMNOPQRSTUVWXYZ0123456789."
REGISTERS = ("r0", "r1", "r2", "r3", "r4", "r5", "r6", "r7")
NAME_MOST = 8


class Row:
    """A row of a text, or one that a macro comes to, with the number by which it is told when it is refused."""

    def __init__(self, number, text):
        ahead, colon, behind = text.partition(":")
        self.number = number
        self.label = None if colon == "" else lowered(ahead.strip())
        word, self.rest = word_and_rest(text if colon == "" else behind)
        self.word = lowered(word)
        # What a macro hands on keeps its letters: only where it comes to stand is seen which are a sign's number.
        self.texts = parts_of(self.rest)
        self.parts = [lowered(part) for part in self.texts]


def rows_of(text):
    """The rows of a text, each as a text without what doesn't matter at its ends, but with its letters as they are."""
    rows = text.split("\n")
    # Behind the last line end there is a row only if something stands there.
    if rows[-1] == "":
        del rows[-1]
    return [row.partition(";")[0].strip() for row in rows]


def lowered(text):
    """A text with its great letters as small ones, but for those that are numbers of signs."""
    return "".join([sign if text[at - 1:at] == "'" else sign.lower() for at, sign in enumerate(text)])


def word_and_rest(text):
    """A row's word and the text behind it, of a text without a label."""
    told = text.strip()
    rest = told.lstrip(WORD_SIGNS)
    if rest == told:
        # What no word begins is all one word, which there is not.
        return told, ""
    return told[:len(told) - len(rest)], rest.strip()


def parts_of(rest):
    """The parts that stand, commas between, in the text behind a row's word."""
    if rest == "":
        return []
    return [part.strip() for part in rest.split(",")]


def is_name(text):
    """Whether a text is a name."""
    if not 1 <= len(text) <= NAME_MOST or text[0] not in LETTERS:
        return False
    if text == "here" or text in REGISTERS:
        return False
    return all([sign in LETTERS or sign in FIGURES for sign in text])


def number_of(text):
    """The number that a text is; None if it is none."""
    if text.startswith("'"):
        return sign_number(text[1:])
    if text.startswith("0x"):
        return figured(text[2:], 16, 4)
    if text.startswith("0b"):
        return figured(text[2:], 2, 16)
    return figured(text, 10, 5)


def sign_number(text):
    """The number of a letter as a sign; None if the text is no letter."""
    if len(text) != 1 or text.lower() not in LETTERS:
        return None
    return ord(text)


def figured(figures, base, most):
    """The number that one to most figures are; None if they are none."""
    known = "0123456789abcdef"[:base]
    if not 1 <= len(figures) <= most or not all([figure in known for figure in figures]):
        return None
    return int(figures, base)
