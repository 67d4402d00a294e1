import itertools
import random
import unittest

from bitmill.deeds import packed, unpacked
from bitmill.errors import BadRow
from bitmill.joining import assembled, places

# Rows, and the deed that each is, at place 0.
DEEDS = [
    ("halt", ("halt",)), ("rest", ("rest",)), ("back", ("back",)),
    ("say r0", ("say", 0)), ("ask r7", ("ask", 7)), ("push r1", ("push", 1)), ("pop r6", ("pop", 6)),
    ("add r1, r2, r3", ("add", 1, 2, 3)), ("less r0, r0, r0", ("less", 0, 0, 0)),
    ("and r7, r6, r5", ("and", 7, 6, 5)), ("or r4, r5, r6", ("or", 4, 5, 6)), ("xor r3, r2, r1", ("xor", 3, 2, 1)),
    ("left r1, r1, r2", ("left", 1, 1, 2)), ("right r1, r1, r2", ("right", 1, 1, 2)),
    ("turn r2, r1, r0", ("turn", 2, 1, 0)),
    ("plus r1, r2, 31", ("plus", 1, 2, 31)), ("plus r1, r2, -32", ("plus", 1, 2, -32)),
    ("copy r3, r4", ("plus", 3, 4, 0)),
    ("set r1, 0", ("set", 1, 0)), ("set r1, 511", ("set", 1, 511)),
    ("high r1, 0", ("high", 1, 0)), ("high r1, 127", ("high", 1, 127)),
    ("load r1, r2, 63", ("load", 1, 2, 63)), ("load r1, r2, 0", ("load", 1, 2, 0)), ("load r1, r2", ("load", 1, 2, 0)),
    ("store r1, r2, 63", ("store", 1, 2, 63)), ("store r1, r2", ("store", 1, 2, 0)),
]

# Sums, and what each comes to; b is 100, c is -3.
SUMS = [
    ("0", 0), ("00007", 7), ("30000", 30000), ("0x0", 0), ("0xf", 15), ("0x7fFf", 32767), ("0b0", 0), ("0b101", 5),
    ("0b0111111111111111", 32767), ("'a", 97), ("'A", 65), ("'z", 122), ("'Z", 90),
    ("1+2", 3), ("1 + 2", 3), ("  1  -  2  ", -1), ("-1", -1), ("- 1 + 3", 2), ("-b", -100), ("-c", 3),
    ("2+3*4", 20), ("2*3+4", 10), ("10-3-2", 5), ("-2*3", -6), ("-2-3*2", -10),
    ("12&10", 8), ("12|10", 14), ("12^10", 6), ("1|2&3", 3), ("1+2|4", 7),
    ("-1&0xff", 255), ("-4|1", -3), ("-1^1", -2), ("-b&c", -100),
    ("1<4", 16), ("1<0", 1), ("1<14", 16384), ("3<1+1", 7), ("1<16>16", 1), ("1<16>2", 16384),
    ("5>1", 2), ("5>0", 5), ("-5>1", -3), ("-1>16", -1), ("65535>15", 1), ("99999>16", 1),
    ("b", 100), ("B", 100), ("b*c", -300), ("b + c * 2 - 'a", 97), ("c&7", 5), ("'b", 98),
    ("99999*9999>16", 15257), ("99999*9999-0xffff>16", 15256),
]


class Rows(unittest.TestCase):
    def test_deeds(self):
        for row, deed in DEEDS:
            with self.subTest(row):
                self.assertEqual(assembled(row), packed(deed))
                self.assertEqual(assembled(row.upper() + "\n"), packed(deed))

    def test_fill(self):
        for word in [0, 1, 511, 512, 0x1234, 65535]:
            wanted = packed(("set", 2, word % 512)) + packed(("high", 2, word // 512))
            self.assertEqual(assembled(f"fill r2, {word}"), wanted)

    def test_words(self):
        self.assertEqual(assembled(".word 0"), (0,))
        self.assertEqual(assembled(".word 65535, -32768, -1, 1"), (65535, 32768, 65535, 1))
        self.assertEqual(assembled(".word " + "7," * 199 + "7"), (7,) * 200)

    def test_rooms(self):
        self.assertEqual(assembled(".room"), (512,))
        for told, many in [("1", 1), ("50", 50), ("0x32", 50), ("0b10", 2), ("00003", 3)]:
            self.assertEqual(assembled(".room " + told), (512,) * many)

    def test_texts_that_come_to_nothing(self):
        for text in ["", "\n", "\n\n", "  ", " ; rest", ";\n;\n", "a:", "a:\nb : ;", ".let x, 5", "\n" * 300]:
            self.assertEqual(assembled(text), (), text)
        self.assertEqual(places(""), [])

    def test_line_ends(self):
        for text in ["rest\nhalt", "rest\nhalt\n", "\nrest\n\nhalt\n\n"]:
            self.assertEqual(assembled(text), (512, 0))

    def test_what_does_not_matter(self):
        wanted = assembled("a: plus r1, r2, 3+4\n.let b, 5\njump.near a, zero\n.word 'a, b\n")
        for text in [
            "  A  :   PLUS   R1  ,  R2 ,  3  +  4   ;; : , \n .LET  B  , 5\n Jump.Near   a , Zero  \n.Word 'a ,B",
            "a:plus r1,r2,3+4;x\n.let b,5;\njump.near a,zero\n.word'a,b",
            "a:;\nplus r1,r2,7\n.let B,5\njump.near A,ZERO;'\n.word 'a,b\n",
        ]:
            self.assertEqual(assembled(text), wanted)

    def test_signs_of_great_letters(self):
        self.assertEqual(assembled(".WORD 'A, 'a, 'Z, 0XaF, 0B1"), (65, 97, 90, 0xaf, 1))

    def test_the_rows_go_on_behind_one_another(self):
        text = "fill r1, 3\n.room 2\nhalt\n.word 4, 5\nb: call.far b\nsay r1"
        wanted = packed(("set", 1, 3)) + packed(("high", 1, 0)) + (512, 512, 0, 4, 5) + packed(("call", 7, True))
        self.assertEqual(assembled(text), wanted + packed(("say", 1)))


class Sums(unittest.TestCase):
    def come(self, text):
        return assembled(f".let b, 100\n.let c, -3\n.word {text}")[0]

    def test_sums(self):
        for text, number in SUMS:
            with self.subTest(text):
                self.assertEqual(self.come(text), number % 65536)

    def test_random_sums_are_reckoned_from_the_left(self):
        chance = random.Random(7)
        deeds = {"+": int.__add__, "-": int.__sub__, "*": int.__mul__, "&": int.__and__, "|": int.__or__,
                 "^": int.__xor__}
        for _ in range(500):
            first = chance.choice([0, 1, 5, 300, 99999])
            minus = chance.random() < 0.5
            text, total = ("-" if minus else "") + str(first), -first if minus else first
            for _ in range(chance.randrange(6)):
                if chance.random() < 0.3:
                    often = chance.randrange(17)
                    sign = chance.choice("<>")
                    came = total * 2 ** often if sign == "<" else total // 2 ** often
                    piece = str(often)
                else:
                    number = chance.randrange(1000)
                    sign = chance.choice("+-*&|^")
                    came = deeds[sign](total, number)
                    piece = chance.choice([str(number), hex(number)])
                if abs(came) > 10 ** 9:
                    break
                text, total = text + chance.choice(["", " "]) + sign + chance.choice(["", " "]) + piece, came
            self.assertEqual(assembled(f".let x, {text}\n.word x&0xffff, x>16&0xffff"),
                             (total % 65536, total // 65536 % 65536), text)

    def test_here_is_the_place_of_the_row(self):
        self.assertEqual(assembled("rest\n.word here, here + 1\n.word here\nfill r1, here"),
                         (512, 1, 2, 3) + packed(("set", 1, 4)) + packed(("high", 1, 0)))
        self.assertEqual(assembled("rest\n.let a, HERE\nrest\n.word a"), (512, 512, 1))

    def test_labels_ahead_and_behind_are_places(self):
        self.assertEqual(assembled("a: .word b, a, b - a\nb: .word a"), (3, 0, 3, 0))

    def test_let_is_from_there_on(self):
        self.assertEqual(assembled(".let a, 1\n.let b, a + 1\n.word a, b\n.let c, z\nz: .word c"), (1, 2, 2))
        # A name may be a figure's letters, or a deed's or time's name.
        self.assertEqual(assembled(".let f, 1\n.let add, 2\n.let zero, 3\n.word f, add, zero"), (1, 2, 3))

    def test_every_sum_of_a_deed(self):
        text = ".let x, 7\nset r1, x*x\nhigh r1, x+x\nplus r1, r1, -x\nload r1, r2, x<1\nstore r1, r2, x>1\nfill r1, x"
        wanted = [("set", 1, 49), ("high", 1, 14), ("plus", 1, 1, -7), ("load", 1, 2, 14), ("store", 1, 2, 3),
                  ("set", 1, 7), ("high", 1, 0)]
        self.assertEqual(assembled(text), tuple([packed(deed)[0] for deed in wanted]))

    def test_the_greatest_sums(self):
        for text, wanted in [("31250*32000>16", 15258), ("99999*9999+99999+9999+1>16", 15258),
                             ("-31250*32000>16", -15259 % 65536)]:
            self.assertEqual(self.come(text), wanted)


class Goals(unittest.TestCase):
    def deed(self, text, place):
        return unpacked(assembled(text), place)

    def test_times(self):
        self.assertEqual(assembled("a: jump a"), packed(("jump", "always", 0, False)))
        for when in ["always", "zero", "some", "carry", "clear", "minus", "over"]:
            self.assertEqual(assembled(f"a: jump a, {when}"), packed(("jump", when, 0, False)))
            self.assertEqual(assembled(f"a: jump.near a, {when}"), packed(("jump", when, 0, False)))
            self.assertEqual(assembled(f"a: jump.far a, {when}"), packed(("jump", when, 0, True)))
        self.assertEqual(assembled("a: jump.near a\njump.far a"),
                         packed(("jump", "always", 0, False)) + packed(("jump", "always", 0, True)))

    def test_calls(self):
        self.assertEqual(assembled("a: call a"), packed(("call", 0, False)))
        self.assertEqual(assembled("a: call.near a"), packed(("call", 0, False)))
        self.assertEqual(assembled("a: call.far a"), packed(("call", 0, True)))

    def test_goals_just_reached(self):
        for word in ["jump", "jump.near", "call", "call.near"]:
            name = word.split(".")[0]
            when = ("always",) if name == "jump" else ()
            ahead = self.deed(f"{word} a\n.room 15\na:", 0)
            self.assertEqual(ahead, ((name,) + when + (16, False), 1))
            behind = self.deed(f"a: .room 15\n{word} a", 15)
            self.assertEqual(behind, ((name,) + when + (0, False), 1))

    def test_goals_just_not_reached(self):
        for word in ["jump", "call"]:
            when = ("always",) if word == "jump" else ()
            self.assertEqual(self.deed(f"{word} a\n.room 16\na:", 0), ((word,) + when + (18, True), 2))
            self.assertEqual(self.deed(f"a: .room 16\n{word} a", 16), ((word,) + when + (0, True), 2))

    def test_one_far_makes_another_far(self):
        # By one word each, the first would reach b; but the second is far, so that it doesn't.
        text = "a: jump b\n.room 13\njump c\nrest\nb: .room 20\nc: halt"
        image = assembled(text)
        self.assertEqual(unpacked(image, 0), (("jump", "always", 18, True), 2))
        self.assertEqual(unpacked(image, 15), (("jump", "always", 38, True), 2))
        near = assembled(text.replace("jump c", "jump b"))
        self.assertEqual(unpacked(near, 0), (("jump", "always", 16, False), 1))
        self.assertEqual(unpacked(near, 14), (("jump", "always", 16, False), 1))

    def test_the_fewest_are_far(self):
        chance = random.Random(11)
        for _ in range(150):
            self.check_fewest([self.random_row(chance) for _ in range(9)])

    def random_row(self, chance):
        if chance.random() < 0.6:
            word = chance.choice(["jump", "jump", "call", "jump.near", "call.far"])
            return f"{word} l{chance.randrange(10)}"
        return f".room {chance.randrange(1, 9)}"

    def check_fewest(self, rows):
        free = [number for number, row in enumerate(rows) if row.split()[0] in ("jump", "call")]
        ways = []
        for picked in itertools.product(["near", "far"], repeat=len(free)):
            told = list(rows)
            for number, reach in zip(free, picked):
                told[number] = told[number].replace(" ", f".{reach} ")
            try:
                ways.append((picked.count("far"), assembled(self.labelled(told))))
            except BadRow as refused:
                self.assertEqual(refused.why, "reach")
        if ways == []:
            with self.assertRaises(BadRow) as caught:
                assembled(self.labelled(rows))
            self.assertEqual(caught.exception.why, "reach")
        else:
            fewest = min(ways)[0]
            self.assertEqual([image for many, image in ways if many == fewest], [assembled(self.labelled(rows))])

    def labelled(self, rows):
        return "\n".join([f"l{number}: {row}" for number, row in enumerate(rows)] + [f"l{len(rows)}:"])

    def test_one_far_makes_all_far(self):
        # Each reaches its goal by one word as long as all others are one word.
        jumps = [f"jump b{number}" for number in range(16)]
        goals = [f"b{number}: rest" for number in range(16)]
        near = assembled("\n".join(jumps + goals))
        self.assertEqual(near, (0x700f,) * 16 + (512,) * 16)
        far = assembled("\n".join(jumps[:15] + ["jump end"] + goals + ["end:"]))
        self.assertEqual([far[at] for at in range(0, 32, 2)], [0x8000] * 16)
        self.assertEqual([far[at] for at in range(1, 32, 2)], list(range(32, 47)) + [48])
        self.assertEqual(len(far), 48)


class Places(unittest.TestCase):
    def test_places(self):
        text = "z: b: rest\na:\nc: fill r1, 5\n.let x, 5\nlast:"
        with self.assertRaises(BadRow):
            places(text)
        text = "z:\nb: rest\na:\nc: fill r1, 5\n.let x, 5\nlast:"
        self.assertEqual(places(text), [("b", 0), ("z", 0), ("a", 1), ("c", 1), ("last", 3)])

    def test_places_behind_far_jumps(self):
        self.assertEqual(places("jump b\na: .room 16\nb: call a\nc:"), [("a", 2), ("b", 18), ("c", 20)])

    def test_names(self):
        names = ["a", "z9", "abcdefgh", "a1234567", "r8", "r", "r00", "r10", "her", "heres", "add", "always", "q0"]
        self.assertEqual(places("\n".join([name + ":" for name in names])), [(name, 0) for name in sorted(names)])
        self.assertEqual(places("ABC:"), [("abc", 0)])

    def test_kinds(self):
        self.assertIsInstance(assembled("rest"), tuple)
        self.assertIsInstance(places("a:"), list)
        self.assertIsInstance(places("a:")[0], tuple)

    def test_what_is_told_may_be_changed(self):
        told = places("a: rest\nb:")
        told.clear()
        self.assertEqual(places("a: rest\nb:"), [("a", 0), ("b", 1)])


if __name__ == "__main__":
    unittest.main()
