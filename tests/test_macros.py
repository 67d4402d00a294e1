import unittest

from bitmill.deeds import packed
from bitmill.errors import BadRow
from bitmill.joining import assembled, places


def packed_all(*deeds):
    return sum([packed(deed, place) for place, deed in enumerate(deeds)], ())


class Exchanged(unittest.TestCase):
    def same(self, text, plain):
        self.assertEqual(assembled(text), assembled(plain))
        self.assertEqual(places(text), places(plain))

    def test_a_macro_without_parameters(self):
        self.same(".macro two\nrest\nhalt\n.end\ntwo\nsay r1\ntwo", "rest\nhalt\nsay r1\nrest\nhalt")

    def test_a_macro_that_is_not_called(self):
        self.assertEqual(assembled(".macro a\nrest\n.end"), ())
        self.assertEqual(places(".macro a\nb: rest\n.end\nrest\nc:"), [("c", 1)])

    def test_a_macro_without_rows(self):
        self.same(".macro a\n.end\na\nrest\nb: a", "rest\nb:")

    def test_great_letters(self):
        self.same(".MACRO Two X, Y=R5\nADD {X}, {x}, {Y}\n.END\nTWO R1\ntwo y = r2, X=r3",
                  "add r1, r1, r5\nadd r3, r3, r2")

    def test_letters_that_are_numbers_of_signs(self):
        self.same(".macro a x='B\n.word {x}, 'C\n.end\na 'A\na", ".word 65, 67\n.word 66, 67")

    def test_blanks_and_what_is_behind_a_semicolon(self):
        self.same("  .macro   a   x  ,  y  ;, z\n plus {x} , {x},{y};{z}\n  .end  ; x\n  a   r1 ,  5  ; , 6",
                  "plus r1, r1, 5")

    def test_parts_by_place(self):
        macro = ".macro m a, b, c, d\n.word {a}, {b}, {c}, {d}\n.end\n"
        self.same(macro + "m 1, 2, 3, 4", ".word 1, 2, 3, 4")

    def test_parts_by_name(self):
        macro = ".macro m a, b, c, d\n.word {a}, {b}, {c}, {d}\n.end\n"
        self.same(macro + "m d=4, c = 3, b =2,a= 1", ".word 1, 2, 3, 4")
        self.same(macro + "m 1, d=4, 3, b=2", ".word 1, 2, 3, 4")

    def test_texts_that_stand_for_parameters(self):
        macro = ".macro m a, b = 7, c=8+1\n.word {a}, {b}, {c}\n.end\n"
        self.same(macro + "m 1", ".word 1, 7, 9")
        self.same(macro + "m 1, 2", ".word 1, 2, 9")
        self.same(macro + "m 1, c=3", ".word 1, 7, 3")
        self.same(macro + "m b=2, a=1", ".word 1, 2, 9")
        self.same(".macro m a=5\n.word {a}\n.end\nm", ".word 5")
        self.same(".macro m a=5, b\n.word {a}, {b}\n.end\nm b=1", ".word 5, 1")

    def test_blanks_about_the_sign_of_a_text(self):
        self.same(".macro m a = 1 , b =  2\nx{a}y{b}: rest\n.end\nm\nm b =  5 ,  a  = 7  ", "x1y2: rest\nx7y5: rest")

    def test_empty_texts(self):
        self.same(".macro m a=, b=5\nload r1, r2{a}\n.word {b}1\n.end\nm\nm b=\nm , b=2",
                  "load r1, r2\n.word 51\nload r1, r2\n.word 1\nload r1, r2\n.word 21")
        self.same(".macro m a, b\n.word 1{a}{b}\n.end\nm ,", ".word 1")
        self.same(".macro m a=5\n.word 1{a}\n.end\nm a=", ".word 1")

    def test_a_text_may_be_anything_in_a_row(self):
        self.same(".macro m a, b\n{a} {b}\n.end\nm say, r7\nm  push , r2", "say r7\npush r2")
        self.same(".macro m a\n{a}: jump {a}\n.end\nm x\nm y", "x: jump x\ny: jump y")
        self.same(".macro m a\n.let x, 3 {a}\n.end\nm + 4\n.word x", ".let x, 7\n.word x")

    def test_parameters_are_exchanged_in_their_order(self):
        # The text of the first has the second in it, but not the other way about.
        self.same(".macro m a, b\n.word {a}\n.end\nm {b}, 5", ".word 5")
        with self.assertRaises(BadRow) as caught:
            assembled(".macro m a, b\n.word {b}\n.end\nm 5, {a}")
        self.assertEqual((caught.exception.row, caught.exception.why), (3, "number"))
        self.same(".macro m a, b\n.word {a}\n.end\nm b=5, a={b}", ".word 5")
        # A text may come to braces with those of the row.
        self.same(".macro m a, b\n.word {{a}}\n.end\nm b, 6", ".word 6")

    def test_each_at_is_exchanged_last(self):
        self.same(".macro m a\n.let x@, {a}\n.end\n.let q1, 8\nm 5\nm @\n.word xq0, xq1",
                  ".let q1, 8\n.let xq0, 5\n.let xq1, q1\n.word 5, 8")
        self.same(".macro m\na@: jump b@\nb@:\n.end\nm\nm", "aq0: jump bq0\nbq0:\naq1: jump bq1\nbq1:")

    def test_calls_are_counted_within_others_too(self):
        text = ".macro in\ni@: rest\n.end\n.macro out\no@: rest\nin\np@: rest\nin\n.end\nout\nin\nout"
        self.assertEqual(places(text), [("oq0", 0), ("iq1", 1), ("pq0", 2), ("iq2", 3), ("iq3", 4), ("oq4", 5),
                                        ("iq5", 6), ("pq4", 7), ("iq6", 8)])

    def test_counts_of_two_figures(self):
        text = ".macro m\na@: rest\n.end\n" + "m\n" * 12
        self.assertEqual(places(text), [(f"aq{number}", number) for number in range(12)])

    def test_a_sign_outside_of_macros_is_not_exchanged(self):
        with self.assertRaises(BadRow):
            assembled(".macro a\n.end\na\nb@: rest")

    def test_a_call_hands_its_texts_on(self):
        text = ".macro in a, b=2\n.word {a}, {b}, @\n.end\n.macro out a, b\nin {b}, {a}\nin b={a}, a=@\n.end\n"
        self.same(".let q0, 70\n.let q1, 71\n.let q2, 72\n" + text + "out 5, 6",
                  ".word 6, 5, 71\n.word 70, 5, 72\n.let q0, 70\n.let q1, 71\n.let q2, 72")

    def test_a_label_on_the_row_of_a_call(self):
        self.same(".macro m\nb: rest\n.end\nrest\na: m", "rest\na:\nb: rest")
        self.same(".macro m\n.end\nrest\na: m\nrest", "rest\na:\nrest")
        self.same(".macro in\nrest\n.end\n.macro out\nx@: in\n.end\nout\nout", "xq0: rest\nxq2: rest")

    def test_places_in_macros(self):
        self.same(".macro m\n.word here, a\n.word here\n.end\nrest\na: m", "rest\na: .word 1, 1\n.word 3")

    def test_macros_within_one_another(self):
        text = ".macro a\nsay r1\n.end\n"
        for name, inner in ["ba", "cb", "dc", "ed"]:
            text += f".macro {name}\n{inner}\n.end\n"
        self.assertEqual(assembled(text + "e\ne"), packed_all(("say", 1), ("say", 1)))

    def test_a_macro_may_call_one_told_behind_it_but_ahead_of_the_call(self):
        self.same(".macro a\nb\n.end\n.macro b\nrest\n.end\na", "rest")

    def test_words_in_macros_are_known_when_it_is_called(self):
        # Until b is a macro it is no word.
        with self.assertRaises(BadRow) as caught:
            assembled(".macro a\nb\n.end\na\n.macro b\nrest\n.end")
        self.assertEqual((caught.exception.row, caught.exception.why), (3, "form"))

    def test_a_call_ahead_of_its_macro(self):
        with self.assertRaises(BadRow) as caught:
            assembled("a\n.macro a\nrest\n.end")
        self.assertEqual((caught.exception.row, caught.exception.why), (0, "form"))

    def test_names_of_macros_are_not_those_of_labels(self):
        self.same(".macro a\n.word a\n.end\nrest\na: a", "rest\na: .word 1")
        self.same(".macro always x\njump {x}\n.end\nb: always b", "b: jump b")

    def test_four_parameters_and_names_of_eight(self):
        self.same(".macro abcdefgh abcdefg1, abcdefg2, abcdefg3, abcdefg4\n.word {abcdefg4}\n.end\nabcdefgh 1, 2, 3, 4",
                  ".word 4")

    def test_only_a_row_that_is_end_ends(self):
        # With a label, or a part, a row is another one.
        for row in ["a: .end", ".end 5", ".ends"]:
            text = f".macro m\nrest\n{row}\nhalt\n.end\nsay r1\n"
            self.assertEqual(assembled(text), packed(("say", 1)))
            with self.assertRaises(BadRow) as caught:
                assembled(text + "m")
            self.assertEqual((caught.exception.row, caught.exception.why), (6, "form"))


class SizesOfLetters(unittest.TestCase):
    """Great letters matter where they are a sign's number once all is exchanged, and nowhere else."""

    def same(self, text, plain):
        self.assertEqual(assembled(text), assembled(plain))
        self.assertEqual(places(text), places(plain))

    def test_a_letter_comes_from_a_call(self):
        macro = ".macro m p\nset r1, '{p}\n.end\n"
        self.assertEqual(assembled(macro + "m A"), packed(("set", 1, 65)))
        self.assertEqual(assembled(macro + "m a"), packed(("set", 1, 97)))
        self.assertEqual(assembled(macro + "m p = Z"), packed(("set", 1, 90)))
        self.assertEqual(assembled(macro + "M P=Z"), packed(("set", 1, 90)))
        self.same(macro + "m B+1", "set r1, 'B+1")

    def test_a_letter_comes_from_the_text_that_stands_for_a_parameter(self):
        self.same(".macro m p=A\n.word '{p}\n.end\nm\nm b\nm B", ".word 'A, 'b, 'B")
        self.same(".macro m p, q = A\n.word {p}{q}\n.end\nm '\nm ', z", ".word 'A, 'z")

    def test_a_letter_comes_from_the_own_row_of_a_macro(self):
        self.same(".macro m p\n.word {p}A, {p}b\n.end\nm '", ".word 'A, 'b")
        self.same(".macro m p='\n.word {p}A, {p}b\n.end\nm", ".word 'A, 'b")
        # Without a sign ahead these are names.
        self.same(".let xa, 7\n.macro m p\n.word {p}A, {p}a\n.end\nm x\nm X", ".word 7, 7, 7, 7\n.let xa, 7")

    def test_what_stood_between_goes(self):
        self.same(".macro m p, q\n.word '{q}A, {p}\n.end\nm '{q}B, ", ".word 'A, 'B")

    def test_a_letter_comes_through_macros_within_one_another(self):
        text = ".macro a p\n.word '{p}, {p}1\n.end\n"
        for name, inner in ["ba", "cb", "dc", "ed"]:
            text += f".macro {name} p\n{inner} {{P}}\n.end\n"
        self.same(text + "X1: e X\nE p = x", "x1: .word 'X, x1, 'x, x1")
        self.same(".macro in a, b=Y\n.word '{a}, '{b}\n.end\n.macro out a=W\nIN {A}\nin b={a}, A=V\n.end\nOUT\nout U",
                  ".word 'W, 'Y, 'V, 'W, 'U, 'Y, 'V, 'U")

    def test_one_text_stands_for_a_sign_and_for_a_name(self):
        self.same(".macro m p\n{p}: .word '{p}, {p}, {p}+'{p}\n.let {p}1, '{p}\njump {p}\n.word {p}1\n.end\nm A\nm b",
                  "a: .word 'A, a, a+'A\njump a\n.word 'A\nb: .word 'b, b, b+'b\njump b\n.word 'b")

    def test_names_of_parameters_behind_the_sign(self):
        self.same(".macro m Pa, pB=C\n.word '{PA}, '{pb}, '{pA}, '{Pb}\n.end\nm a\nm A, c\nm PB=d, pa=D",
                  ".word 'a, 'C, 'a, 'C, 'A, 'c, 'A, 'c, 'D, 'd, 'D, 'd")

    def test_braces_that_a_text_comes_to(self):
        self.same(".macro m a, b\n.word '{{A}}, '{{a}}\n.end\nm B, Z\nm b, z", ".word 'Z, 'Z, 'z, 'z")
        self.same(".macro m a, b\n.word {a}\n.end\nm '{B}, K", ".word 'K")
        with self.assertRaises(BadRow) as caught:
            assembled(".macro m a, b\n.word {B}\n.end\nm 5, {A}")
        self.assertEqual((caught.exception.row, caught.exception.why), (3, "number"))

    def test_all_other_letters_do_not_matter(self):
        small = ("x: rest\n.macro two p, q=0xab, r=r5\n{p}@: fill {r}, {q} + 'K\njump.near {p}@, zero\n.let l@, {p}@\n"
                 ".word l@, here\n.end\ny: two a\n.macro one p\ntwo {p}, r={p}7\n.end\ntwo b, 0b11, r1\none r\n"
                 "two r=r2, p=c\njump aq0, some")
        great = small.upper()
        self.assertEqual(great.count("'K"), 1)
        self.same(great, small)
        self.assertEqual(places(great)[:3], [("x", 0), ("aq0", 1), ("y", 1)])

    def test_what_is_refused_of_great_letters(self):
        for text, row, why in [
            (".MACRO M P, p\n.END", 0, "macro"), (".MACRO ADD\n.END", 0, "macro"), (".MACRO R1\n.END", 0, "macro"),
            (".MACRO M R1\n.END", 0, "macro"), (".MACRO HERE\n.END", 0, "macro"), (".MACRO M HERE\n.END", 0, "macro"),
            (".macro m\n.END\n.macro M\n.end", 2, "macro"), (".MACRO M", 0, "macro"),
            (".macro m p\n.end\nm 1, P=2", 2, "macro"), (".macro m p\n.end\nm P=1, p=2", 2, "macro"),
            (".macro m p\n.end\nm 'P=2", 2, "macro"), (".macro m 'P\n.end", 0, "macro"),
            (".macro 'M\n.end", 0, "macro"), ("'A: rest", 0, "form"), (".macro m p\n{p}X:\n.end\nm '", 3, "form"),
            (".macro m p\n.word '{p}\n.end\nm AB", 3, "number"), (".macro m p\n.word '{p}\n.end\nm 'A", 3, "number"),
            (".macro m p\n.word '{p}\n.end\nm p=", 3, "number"), (".macro m p\n.word {p}A\n.end\nm p=", 3, "name"),
            (".macro m p\n.word '{p}\n.end\nm @", 3, "number"), (".macro m p\n{p}REST\n.end\nm '", 3, "form"),
            (".macro m p\na:\n{p}:\n.end\nm A", 4, "twice"),
            # 65 times 7 is a number that may be, 97 times 7 is not.
            (".macro m p\nset r1, '{p}*7\n.end\nm A\nm a", 4, "number"),
        ]:
            with self.subTest(text):
                with self.assertRaises(BadRow) as caught:
                    assembled(text)
                self.assertEqual((caught.exception.row, caught.exception.why), (row, why))


REFUSED = [
    # A .macro row.
    ("a: .macro m\n.end", 0, "macro"), ("rest\n.macro\n.end", 1, "macro"), (".macro 1a\n.end", 0, "macro"),
    (".macro r1\n.end", 0, "macro"), (".macro here\n.end", 0, "macro"), (".macro abcdefghi\n.end", 0, "macro"),
    (".macro a.b\n.end", 0, "macro"), (".macro m,\n.end", 0, "macro"), (".macro add\n.end", 0, "macro"),
    (".macro halt\n.end", 0, "macro"), (".macro copy\n.end", 0, "macro"), (".macro fill\n.end", 0, "macro"),
    (".macro jump\n.end", 0, "macro"), (".macro call\n.end", 0, "macro"), (".macro turn\n.end", 0, "macro"),
    (".macro .word\n.end", 0, "macro"), (".macro .end\n.end", 0, "macro"), (".macro jump.near\n.end", 0, "macro"),
    (".macro m\n.end\n.macro M\n.end", 2, "macro"), (".macro m 1\n.end", 0, "macro"), (".macro m r1\n.end", 0, "macro"),
    (".macro m here\n.end", 0, "macro"), (".macro m a, , b\n.end", 0, "macro"), (".macro m a,\n.end", 0, "macro"),
    (".macro m ,\n.end", 0, "macro"), (".macro m a b\n.end", 0, "macro"), (".macro m =5\n.end", 0, "macro"),
    (".macro m abcdefghi\n.end", 0, "macro"), (".macro m a, A\n.end", 0, "macro"),
    (".macro m a=1, a=2\n.end", 0, "macro"),
    (".macro m a, b, c, d, e\n.end", 0, "macro"), (".macro m a {b}\n.end", 0, "macro"),
    # No .end.
    (".macro m", 0, "macro"), ("rest\n.macro m\nrest\nend", 1, "macro"), (".macro m\na: .end", 0, "macro"),
    (".end\n.macro m", 1, "macro"), (".macro m\n.end\n.macro n\nrest", 2, "macro"),
    # A call.
    (".macro m a\n.end\n\nm 1, a=1", 3, "macro"), (".macro m a\n.end\nm a=1, a=1", 2, "macro"),
    (".macro m a, b\n.end\nm b=1, 2", 2, "macro"), (".macro m a\n.end\nm c=1", 2, "macro"),
    (".macro m a\n.end\nm 1, c=1", 2, "macro"), (".macro m\n.end\nm 1", 2, "macro"),
    (".macro m\n.end\nm ,", 2, "macro"),
    (".macro m a\n.end\nm 1, 2", 2, "macro"), (".macro m a=1\n.end\nm 1, 2", 2, "macro"),
    (".macro m a\n.end\nm", 2, "macro"),
    (".macro m a, b=1\n.end\nm b=1", 2, "macro"), (".macro m a, b\n.end\nm 1", 2, "macro"),
    (".macro m a\n.end\nm =1", 2, "macro"), (".macro m a=1, b\n.end\nm 1", 2, "macro"),
    (".macro m a, b, c, d\n.end\nm 1, 2, 3, 4, 5", 2, "macro"),
    # Within one another.
    (".macro m\nm\n.end\nm", 3, "macro"), (".macro a\nb\n.end\n.macro b\na\n.end\n\nb", 7, "macro"),
    (".macro m\n.macro n\n.end\nm", 3, "macro"),
    # Others, of rows of macros.
    (".macro m\nnop\n.end\nrest\nm", 4, "form"), (".macro m\n1: rest\n.end\nm", 3, "form"),
    (".macro m\nabcdefg@:\n.end\nm", 3, "form"), (".macro m\n{a}\n.end\nm", 3, "form"),
    (".macro m\na: rest\n.end\nm\nm", 4, "twice"), (".macro m\na: rest\n.end\na: m", 3, "twice"),
    (".macro m\njump a\n.end\nm", 3, "name"), (".macro m\n.room 50\n.end\nm\nm\nm\nm\nm", 7, "long"),
    (".macro m a\nset r1, {a}\n.end\nm 511\nm 512", 4, "number"), (".macro m\n.word x\n.end\nm", 3, "name"),
    (".macro m\njump.near a@\n.room 16\na@:\n.end\nm", 5, "reach"), (".macro m a\nsay {a}\n.end\nm r8", 3, "form"),
    (".macro m a\nsay {a}\n.end\nm ,", 3, "macro"), (".macro m a\nsay {a}\n.end\nm a=", 3, "form"),
]

ORDERS = [
    ("1: .macro m", 0, "form"), (".macro m\n.end\n1: m 5", 2, "form"), (".macro m\n1:\n.end\nm\n.macro", 3, "form"),
    ("nop\n.macro m\n.end\nm 5", 3, "macro"), (".macro m a\n1:\n.end\nm", 3, "macro"),
    (".macro m\n1: n 5\n.end\n.macro n\n.end\nm", 5, "form"),
    (".macro m\nn 5\n1:\n.end\n.macro n\n.end\nm", 6, "macro"),
]


class Refused(unittest.TestCase):
    def check(self, cases):
        for text, row, why in cases:
            for call in [assembled, places]:
                with self.subTest(text, call=call.__name__):
                    with self.assertRaises(BadRow) as caught:
                        call(text)
                    self.assertEqual((caught.exception.row, caught.exception.why), (row, why))

    def test_macros(self):
        self.check(REFUSED)

    def test_orders(self):
        self.check(ORDERS)

    def test_a_sixth_within_one_another(self):
        text = ".macro a\nrest\n.end\n"
        for name, inner in ["ba", "cb", "dc", "ed", "fe"]:
            text += f".macro {name}\n{inner}\n.end\n"
        self.assertEqual(assembled(text + "e"), (512,))
        self.check([(text + "rest\nf", 19, "macro")])

    def test_what_stands_in_a_macro_is_not_looked_at(self):
        for row in ["1:", "nop", "say r9", ".macro", ".macro m", "jump a", ".word $", ".let", ".room 99", "m", "{x}"]:
            self.assertEqual(assembled(f".macro m\n{row}\n.end\nrest"), (512,), row)

    def test_three_hundred_rows_of_macros(self):
        macro = ".macro m\n" + "\n" * 60 + ".end\n"
        self.assertEqual(assembled(macro + "m\n" * 5), ())
        self.check([(macro + "m\n" * 6, 67, "long"), (macro + "m\n" * 5 + "\n", 67, "long"),
                    (macro + "\n" + "m\n" * 5, 67, "long")])
        # A label on a call is a row ahead of the macro's.
        self.check([(macro + "m\n" * 4 + "a: m\n", 66, "long")])
        within = ".macro a\n" + "\n" * 10 + ".end\n.macro b\n" + "a\n" * 10 + ".end\n.macro c\nb\nb\n.end\n"
        self.assertEqual(assembled(within + "b\nc"), ())
        self.check([(within + "b\nc\n\n", 30, "long"), (within + "c\nc", 29, "long")])

    def test_rows_that_tell_macros_and_calls_are_exchanged(self):
        text = ".macro m\nrest\n.end\nm\n" + "\n" * 299
        self.assertEqual(assembled(text), (512,))
        self.check([(text + "\n", 303, "long")])

    def test_rows_come_ahead_of_what_stands_behind(self):
        macro = ".macro m\n" + "\n" * 300 + "1:\n.end\n"
        self.check([(macro + "m\n.macro", 303, "form")])
        self.check([(".macro m\n" + "\n" * 301 + "1:\n.end\nm", 304, "long")])


if __name__ == "__main__":
    unittest.main()
