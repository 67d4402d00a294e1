import unittest

from bitmill.errors import BadRow
from bitmill.joining import assembled, places

LONGEST = "\n" * 300

# Texts, and the row and why of which each is refused.
LABELS = [
    (":", 0, "form"), (" : rest", 0, "form"), ("r0:", 0, "form"), ("r7: rest", 0, "form"), ("R3:", 0, "form"),
    ("here:", 0, "form"), ("abcdefghi:", 0, "form"), ("1a:", 0, "form"), ("a b:", 0, "form"), ("a.b:", 0, "form"),
    ("a_b:", 0, "form"), ("a-:", 0, "form"), ("'a: rest", 0, "form"), ("rest\n\nset r1, 5:", 2, "form"),
    (".word: 5", 0, "form"), ("a@:", 0, "form"),
]

FORMS = [
    # No such word.
    ("rest\nnop", 1, "form"), ("jumps a", 0, "form"), ("jump.here a", 0, "form"), (".words 5", 0, "form"),
    ("word 5", 0, "form"), (".end", 0, "form"), ("rest.", 0, "form"), ("5", 0, "form"), ("-5", 0, "form"),
    ("a: b: rest", 0, "form"), ("r1", 0, "form"), ("here", 0, "form"), ("= 5", 0, "form"), ("{a}", 0, "form"),
    ("@", 0, "form"), (",", 0, "form"), ("room 5", 0, "form"), ("copy.near r1, r2", 0, "form"), (".", 0, "form"),
    ("always", 0, "form"), ("ret", 0, "form"),
    # Another count of parts.
    ("halt r1", 0, "form"), ("rest 0", 0, "form"), ("back ,", 0, "form"), ("say", 0, "form"), ("say r1, r2", 0, "form"),
    ("ask", 0, "form"), ("push r1, r1", 0, "form"), ("pop", 0, "form"), ("add r1, r2", 0, "form"),
    ("add r1, r2, r3, r4", 0, "form"), ("plus r1, r2", 0, "form"), ("plus r1, 5", 0, "form"), ("set r1", 0, "form"),
    ("set r1, 1, 2", 0, "form"), ("high r1", 0, "form"), ("load r1", 0, "form"), ("load r1, r2, 3, 4", 0, "form"),
    ("store r1", 0, "form"), ("copy r1", 0, "form"), ("copy r1, r2, 0", 0, "form"), ("fill r1", 0, "form"),
    ("fill r1, 1, 2", 0, "form"), ("a: jump", 0, "form"), ("a: jump a, zero, zero", 0, "form"),
    ("a: jump.near", 0, "form"), ("a: jump.far a, zero, 5", 0, "form"), ("a: call", 0, "form"),
    ("a: call a, zero", 0, "form"), ("a: call.near a, always", 0, "form"), ("call.far", 0, "form"),
    (".word", 0, "form"), (".room 1, 2", 0, "form"), (".let a", 0, "form"), (".let a, 5, 6", 0, "form"),
    (".let", 0, "form"),
    # An empty part.
    ("say ,", 0, "form"), ("add r1, , r2", 0, "form"), ("plus r1, r2,", 0, "form"), ("set r1,", 0, "form"),
    ("load r1, r2,", 0, "form"), ("a: jump a,", 0, "form"), ("a: jump , zero", 0, "form"), (".word ,", 0, "form"),
    (".word 5,", 0, "form"), (".word , 5", 0, "form"), (".word 1,,2", 0, "form"), (".room ,", 0, "form"),
    (".let a,", 0, "form"), (".let , 5", 0, "form"), ("fill r1,", 0, "form"), (".word 5, ; 6", 0, "form"),
    # One that is no register, time, name or number.
    ("say r8", 0, "form"), ("say 1", 0, "form"), ("say r", 0, "form"), ("say r01", 0, "form"),
    ("add r1, r2, 3", 0, "form"),
    ("set 1, 5", 0, "form"), ("plus r1, x, 5", 0, "form"), ("load r1, 5, r2", 0, "form"), ("copy r1, 5", 0, "form"),
    ("fill a, 5", 0, "form"), ("a: jump a, never", 0, "form"), ("a: jump a, 0", 0, "form"), ("jump 0", 0, "form"),
    ("jump r1", 0, "form"), ("jump here", 0, "form"), ("a: jump a+1", 0, "form"), ("call 5", 0, "form"),
    ("call.far abcdefghi", 0, "form"), (".let r1, 5", 0, "form"), (".let here, 5", 0, "form"), (".let 5, 5", 0, "form"),
    (".let abcdefghi, 5", 0, "form"), (".room 0", 0, "form"), (".room 51", 0, "form"), (".room -1", 0, "form"),
    (".room 1+1", 0, "form"), (".let a, 5\n.room a", 1, "form"), (".room 000001", 0, "form"), (".room 'a", 0, "form"),
    (".room x", 0, "form"), ("add r1 r2 r3", 0, "form"), ("set r1 5", 0, "form"),
]

TWICE = [
    ("a:\na:", 1, "twice"), ("a: rest\n\nA: rest", 2, "twice"), (".let a, 1\n.let a, 1", 1, "twice"),
    ("a:\n.let a, 5", 1, "twice"), (".let a, 5\na:", 1, "twice"), ("a: .let a, 5", 0, "twice"),
    ("b: rest\na: .let b, 5", 1, "twice"),
    # Of a row, its form comes first, but a row's name ahead of all that later rows have.
    ("a:\na: nop", 1, "form"), ("a:\na:\nnop", 1, "twice"), ("a:\nnop\na:", 1, "form"),
    ("a:\n.let a, ", 1, "form"), ("a:\n.let a, $", 1, "twice"),
]

GOALS = [
    ("jump a", 0, "name"), ("call.far a\na1:", 0, "name"), (".let a, 5\njump a", 1, "name"),
    ("jump.near halt", 0, "name"), ("a: jump b\njump c", 0, "name"), ("a: jump a\n\ncall.near b", 2, "name"),
]

LENGTHS = [
    (".room 50\n" * 4 + "rest", 4, "long"), (".room 50\n" * 4 + "a:\n\nrest\nrest", 6, "long"),
    (".room 50\n" * 3 + ".room 49\nfill r1, 0", 4, "long"),
    (".room 50\n" * 3 + ".room 49\n.word 1\n.word 2", 5, "long"),
    (".word " + "0," * 200 + "0", 0, "long"), (".room 50\n" * 5, 4, "long"),
    (".room 50\n" * 3 + ".room 49\na: call.far a", 4, "long"),
    # The first jump is far, so that the last row ends one word later.
    ("jump a\n" + ".room 50\n" * 3 + ".room 48\na: rest", 5, "long"),
]

NUMBERS = [
    # No sums.
    ("set r1, r2", 0, "number"), (".word $", 0, "number"), (".word 1 2", 0, "number"), (".word 1+", 0, "number"),
    (".word +1", 0, "number"), (".word 1+-1", 0, "number"), (".word --1", 0, "number"), (".word -", 0, "number"),
    (".word 1++1", 0, "number"), (".word *", 0, "number"), (".word 100000", 0, "number"), (".word 000001", 0, "number"),
    (".word 0x", 0, "number"), (".word 0x00001", 0, "number"), (".word 0xg", 0, "number"), (".word 0b", 0, "number"),
    (".word 0b2", 0, "number"), (".word 0b" + "0" * 17, 0, "number"), (".word '", 0, "number"),
    (".word ''", 0, "number"),
    (".word 'ab", 0, "number"), (".word '1", 0, "number"), (".word ' a", 0, "number"), (".word a'", 0, "number"),
    (".word 1a", 0, "number"), (".word abcdefghi", 0, "number"), (".word (1)", 0, "number"), (".word 1/1", 0, "number"),
    (".word ~1", 0, "number"), (".word 1<<1", 0, "number"), (".word 0x 1", 0, "number"), (".word 1_0", 0, "number"),
    (".word r1", 0, "number"), (".word .5", 0, "number"), (".let a, r1", 0, "number"), ("load r1, r2, r3", 0, "number"),
    (".word '@", 0, "number"), (".word 0x-1", 0, "number"), (".word \"a\"", 0, "number"), (".word {a}", 0, "number"),
    # What may not be.
    ("plus r1, r1, 32", 0, "number"), ("plus r1, r1, -33", 0, "number"), ("set r1, 512", 0, "number"),
    ("set r1, -1", 0, "number"), ("high r1, 128", 0, "number"), ("high r1, -1", 0, "number"),
    ("load r1, r2, 64", 0, "number"), ("load r1, r2, -1", 0, "number"), ("store r1, r2, 64", 0, "number"),
    ("store r1, r2, -1", 0, "number"), ("fill r1, 65536", 0, "number"), ("fill r1, -1", 0, "number"),
    (".word 65536", 0, "number"), (".word -32769", 0, "number"), (".word 5, 65536", 0, "number"),
    (".word 1<17", 0, "number"), (".word 1>17", 0, "number"), (".word 1<16-1<16", 0, "number"),
    (".let a, 0-1\n.word 1<a", 1, "number"), (".let a, 0-1\n.word 1>a", 1, "number"),
    (".let a, 31250*32000+1", 0, "number"), (".let a, -31250*32000-1", 0, "number"), (".let a, 99999<16", 0, "number"),
    (".let a, 31250*32000+1-1", 0, "number"), (".word 99999*99999>16>16", 0, "number"),
    (".let a, 31250*32000\n.let b, 31250*32000|1", 1, "number"),
]

NAMES = [
    (".word a", 0, "name"), (".word 1+a", 0, "name"), ("set r1, a", 0, "name"), (".let a, a", 0, "name"),
    (".let a, a+1", 0, "name"), (".word a\n.let a, 5", 0, "name"), (".let b, a\n.let a, 5", 0, "name"),
    ("fill r1, halt", 0, "name"), (".let a, r9", 0, "name"), (".word f", 0, "name"), (".word b101", 0, "name"),
    # Whichever comes first from the left.
    (".word a + $", 0, "name"), (".word $ + a", 0, "number"), (".word 1+ + a", 0, "number"), (".word a+", 0, "name"),
    (".word a, 65536", 0, "name"), (".word 65536, a", 0, "number"), (".word 65536+a", 0, "name"),
    (".word 99999*99999+a", 0, "number"), (".word 1<17+a", 0, "number"), (".word a<17", 0, "name"),
    (".word -a", 0, "name"), (".word 5,a b", 0, "number"), (".word 5, a, $", 0, "name"),
]

REACHES = [
    ("jump.near a\n.room 16\na:", 0, "reach"), ("a: .room 16\njump.near a, zero", 1, "reach"),
    ("call.near a\n.room 16\na:", 0, "reach"), ("a: .room 16\ncall.near a", 1, "reach"),
    # Only since the other jump is far.
    ("jump.near a\n.room 13\njump b\na: .room 20\nb:", None, ""),
    ("jump.near a\n.room 14\njump b\na: .room 20\nb:", 0, "reach"),
]

ORDERS = [
    # All labels, macros and the count of rows, then all forms and names twice, goals, words, then the rest.
    ("nop\n:", 1, "form"), ("nop\n.macro", 1, "macro"), ("nop" + LONGEST + "rest", 300, "long"),
    (":" + LONGEST + "rest", 0, "form"), (LONGEST + ":", 300, "form"), (LONGEST + ".macro", 300, "macro"),
    (LONGEST + "\n" + ":", 300, "long"), ("a:\na:" + LONGEST, 300, "long"),
    ("jump a\nnop", 1, "form"), ("jump b\na:\na:", 2, "twice"), (".word $\nnop", 1, "form"),
    (".word $\njump a", 1, "name"),
    (".room 50\n" * 5 + "jump a", 5, "name"), (".room 50\n" * 5 + "nop", 5, "form"),
    (".word $\n" + ".room 50\n" * 4, 4, "long"),
    ("jump.near a\n" + ".room 50\n" * 4 + "a:", 4, "long"), ("set r1, $\n" + ".room 50\n" * 5, 4, "long"),
    ("jump.near a\n.room 16\na: .word $", 0, "reach"), (".word $\njump.near a\n.room 16\na:", 0, "number"),
    (".word x\njump.near a\n.room 16\na: set r1, 512", 0, "name"), ("set r1, 512\n.word x", 0, "number"),
]


class Refused(unittest.TestCase):
    def check(self, cases):
        for text, row, why in cases:
            for call in [assembled, places]:
                with self.subTest(text, call=call.__name__):
                    if row is None:
                        call(text)
                        continue
                    with self.assertRaises(BadRow) as caught:
                        call(text)
                    self.assertEqual((caught.exception.row, caught.exception.why), (row, why))

    def test_labels(self):
        self.check(LABELS)

    def test_rows_behind_three_hundred(self):
        self.check([(LONGEST + " ", 300, "long"), (LONGEST + "\n", 300, "long"),
                    (LONGEST + "\n\n\n", 300, "long"), (LONGEST + "nop\n", 300, "long")])
        self.assertEqual(assembled(LONGEST), ())
        self.assertEqual(len(assembled("rest\n" * 200 + "\n" * 100)), 200)

    def test_forms(self):
        self.check(FORMS)

    def test_forms_ahead_of_sums(self):
        # Sums aren't looked at when forms are.
        self.check([("set r1, $\nnop", 1, "form"), ("plus r1, r2, r3, r4\n.word $", 0, "form")])

    def test_names_twice(self):
        self.check(TWICE)

    def test_goals_that_are_no_labels(self):
        self.check(GOALS)

    def test_too_many_words(self):
        self.check(LENGTHS)

    def test_just_as_many_words_as_may_be(self):
        for text in [".room 50\n" * 4, ".room 50\n" * 3 + ".room 49\nrest\na:\n.let b, 5\n",
                     ".room 50\n" * 3 + ".room 48\nfill r1, 0", ".word " + "0," * 199 + "0",
                     "jump a\n" + ".room 50\n" * 3 + ".room 48\na:"]:
            self.assertEqual(len(assembled(text)), 200)
        self.assertEqual(places(".room 50\n" * 4 + "a:"), [("a", 200)])
        self.assertEqual(assembled(".room 50\n" * 3 + ".room 48\njump.far a\na:")[198:], (0x8000, 200))

    def test_numbers(self):
        self.check(NUMBERS)

    def test_names(self):
        self.check(NAMES)

    def test_reaches(self):
        self.check(REACHES)

    def test_orders(self):
        self.check(ORDERS)

    def test_a_refusal_has_both_values(self):
        with self.assertRaises(BadRow) as caught:
            assembled("rest\nnop")
        self.assertEqual(caught.exception.row, 1)
        self.assertEqual(caught.exception.why, "form")


if __name__ == "__main__":
    unittest.main()
