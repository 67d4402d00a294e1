import random
import unittest

from bitmill.deeds import packed, unpacked
from bitmill.errors import BadImage
from bitmill.joining import assembled
from bitmill.shown import listing, shown
from tests.deeds_told import TOLD, words

DEEDS = [
    (("halt",), "halt"), (("rest",), "rest"), (("back",), "back"), (("say", 0), "say r0"), (("ask", 7), "ask r7"),
    (("push", 3), "push r3"), (("pop", 4), "pop r4"), (("add", 1, 2, 3), "add r1, r2, r3"),
    (("less", 7, 6, 5), "less r7, r6, r5"), (("and", 0, 0, 0), "and r0, r0, r0"), (("or", 1, 1, 1), "or r1, r1, r1"),
    (("xor", 2, 2, 2), "xor r2, r2, r2"), (("left", 3, 3, 3), "left r3, r3, r3"),
    (("right", 4, 4, 4), "right r4, r4, r4"), (("turn", 5, 5, 5), "turn r5, r5, r5"),
    (("plus", 1, 2, -32), "plus r1, r2, -32"), (("plus", 1, 2, 31), "plus r1, r2, 31"),
    (("plus", 1, 2, 0), "plus r1, r2, 0"), (("set", 6, 511), "set r6, 511"), (("set", 6, 0), "set r6, 0"),
    (("high", 7, 127), "high r7, 127"), (("load", 1, 2, 0), "load r1, r2, 0"), (("load", 1, 2, 63), "load r1, r2, 63"),
    (("store", 3, 4, 0), "store r3, r4, 0"), (("store", 3, 4, 63), "store r3, r4, 63"),
]


def image_of_rows(*deeds):
    """The image of deeds, each standing behind the one ahead; numbers stand for words."""
    image = []
    for deed in deeds:
        image.extend([deed] if isinstance(deed, int) else packed(deed, len(image)))
    return tuple(image)


def random_image(chance, many):
    """An image in which jumps and calls often go to places in it, and some words are no deeds."""
    image = []
    while len(image) < many:
        goal = chance.randrange(many + 2)
        near = goal - len(image) - 1 in range(-16, 16)
        deed = chance.choice([("jump", "zero", goal, not near), ("call", goal, not near), ("jump", "over", goal, True),
                              ("call", goal, True), ("plus", 1, 2, -3), ("load", 1, 2, 0), ("rest",), None])
        image.extend([chance.randrange(65536)] if deed is None else packed(deed, len(image)))
    return tuple(image[:many])


class Shown(unittest.TestCase):
    def test_deeds(self):
        for deed, row in DEEDS:
            self.assertEqual(shown(packed(deed)), row)

    def test_rows_stand_behind_one_another(self):
        self.assertEqual(shown(image_of_rows(("set", 1, 5), ("say", 1), ("halt",))), "set r1, 5\nsay r1\nhalt")

    def test_an_empty_image(self):
        self.assertEqual(shown(()), "")
        self.assertEqual(shown([]), "")

    def test_goals(self):
        image = image_of_rows(("rest",), ("jump", "zero", 0, False), ("call", 5, True), ("rest",), ("call", 2, False))
        self.assertEqual(shown(image), "p0: rest\njump.near p0, zero\np2: call.far p5\nrest\np5: call.near p2")

    def test_the_time_is_always_told(self):
        for when in ["always", "zero", "some", "carry", "clear", "minus", "over"]:
            self.assertEqual(shown(packed(("jump", when, 0, False))), f"p0: jump.near p0, {when}")
            self.assertEqual(shown(packed(("jump", when, 0, True))), f"p0: jump.far p0, {when}")

    def test_far_though_it_could_be_near(self):
        for deed in [("call", 2, True), ("jump", "always", 2, True)]:
            self.assertEqual(assembled(shown(packed(deed))), packed(deed))

    def test_the_place_behind_all(self):
        self.assertEqual(shown(packed(("call", 1, False))), "call.near p1\np1:")
        self.assertEqual(shown(packed(("jump", "over", 2, True)) + (512,) * 8), "jump.far p2, over\np2: " + "\n".join(
            ["rest"] * 8))
        image = packed(("call", 200, True)) + (512,) * 198
        self.assertEqual(shown(image), "call.far p200\n" + "rest\n" * 198 + "p200:")

    def test_one_goal_of_several(self):
        image = image_of_rows(("call", 2, False), ("call", 2, False), ("halt",))
        self.assertEqual(shown(image), "call.near p2\ncall.near p2\np2: halt")

    def test_words_that_are_no_deeds(self):
        self.assertEqual(shown([0x000f, 0xffff, 0x0e00, 0xb000]),
                         ".word 0x000f\n.word 0xffff\n.word 0x0e00\n.word 0xb000")
        # The second word of a far jump is lacking.
        self.assertEqual(shown([512, 0x8000]), "rest\n.word 0x8000")
        # A near jump to a place ahead of the first one is no deed.
        self.assertEqual(shown([0x701e]), ".word 0x701e")

    def test_goals_that_are_no_rows(self):
        self.assertEqual(shown([0x8200, 0x1234]), ".word 0x8200, 0x1234")
        self.assertEqual(shown([0xa000, 0x0003]), ".word 0xa000, 0x0003")
        self.assertEqual(shown([0x7001]), ".word 0x7001")
        self.assertEqual(shown([0x9001, 512]), "call.near p2\nrest\np2:")
        self.assertEqual(shown([0x9002, 512]), ".word 0x9002\nrest")
        # Place 1 is the second word of the far jump at place 0.
        self.assertEqual(shown([0x8000, 0x0001]), ".word 0x8000, 0x0001")
        self.assertEqual(shown([0x8000, 0x0000, 0x901e]), "p0: jump.far p0, always\n.word 0x901e")

    def test_a_row_of_words_may_be_a_goal(self):
        self.assertEqual(shown([0x9000, 0xffff]), "call.near p1\np1: .word 0xffff")
        self.assertEqual(shown([0x9000, 0x8000, 0x1234]), "call.near p1\np1: .word 0x8000, 0x1234")

    def test_a_row_of_words_makes_no_label(self):
        # The deed would have a goal at place 4, but as words it has none.
        self.assertEqual(shown([0x9003, 512, 512]), ".word 0x9003\nrest\nrest")

    def test_what_is_shown_comes_to_the_image(self):
        chance = random.Random(12)
        for many in list(range(30)) * 10 + [198, 199, 200] * 20:
            image = random_image(chance, many)
            self.assertEqual(assembled(shown(image)), image)
            image = tuple([chance.randrange(65536) for _ in range(many)])
            self.assertEqual(assembled(shown(list(image))), image)

    def test_all_words(self):
        for first in range(0, 65536, 199):
            image = tuple(range(first, min(first + 199, 65536)))
            self.assertEqual(assembled(shown(image)), image)

    def test_each_deed_by_its_words(self):
        for deed, place, bits in TOLD:
            if deed[0] not in ("jump", "call"):
                self.assertEqual(assembled(shown(words(bits))), words(bits))
                self.assertEqual(shown(words(bits)).split(" ")[0], deed[0])

    def test_no_images(self):
        for call in [shown, listing]:
            for image, number in [([0, 65536], 1), ((-1, "a"), 0), ((0,) * 201, 200), ([0] * 200 + ["a"], 200),
                                  ([0] * 199 + [None, 0], 199), ([True], 0)]:
                with self.assertRaises(BadImage) as caught:
                    call(image)
                self.assertEqual(caught.exception.number, number)


class Listing(unittest.TestCase):
    def test_rows(self):
        image = image_of_rows(("set", 1, 511), ("call", 0x1234, True), 0xffff, ("jump", "some", 0, False))
        self.assertEqual(listing(image), [
            "place word bits             deed",
            "----- ---- ---------------- ------------------",
            "    0 33ff 0011001111111111 set r1, 511",
            "    1 a000 1010000000000000 call.far p4660",
            "    2 1234 0001001000110100",
            "    3 ffff 1111111111111111 ?",
            "    4 741b 0111010000011011 jump.near p0, some",
        ])

    def test_an_empty_image(self):
        self.assertEqual(listing([]), ["place word bits deed", "----- ---- ---- ----"])
        self.assertEqual(listing([], 6), ["place word bits deed", "----- ---- ---- ------"])
        self.assertEqual(listing([], 3), ["place word bits deed", "----- ---- ---- ----"])

    def test_the_least_width_of_the_last_part(self):
        head = "place word bits             deed"
        row = "    0 0600 0000011000000000 say r0"
        for wide, many in [(0, 6), (5, 6), (6, 6), (7, 7), (40, 40)]:
            self.assertEqual(listing([0x0600], wide), [head, "----- ---- ---------------- " + "-" * many, row])

    def test_no_deed_is_as_wide_as_the_head(self):
        self.assertEqual(listing([0xffff]), ["place word bits             deed", "----- ---- ---------------- ----",
                                             "    0 ffff 1111111111111111 ?"])

    def test_goals_anywhere_and_no_labels(self):
        for image, told in [([0x7005], "jump.near p6, always"), ([0x8c00, 0xffff], "jump.far p65535, over"),
                            ([0x900f], "call.near p16"), ([0x701f], "jump.near p0, always"),
                            # A near goal below 0 is none.
                            ([0x701e], "?")]:
            self.assertEqual(listing(image)[2][28:], told)

    def test_each_word_has_a_row(self):
        chance = random.Random(3)
        for many in [1, 9, 10, 11, 99, 100, 101, 200]:
            image = random_image(chance, many)
            rows = listing(image)
            self.assertEqual(len(rows), many + 2)
            behind = 0
            for place, word in enumerate(image):
                row = rows[place + 2]
                self.assertEqual(row[:27], f"{place:5} {word:04x} {word:016b}")
                self.assertEqual(row, row.rstrip())
                if place < behind:
                    self.assertEqual(row[27:], "")
                else:
                    behind = place + self.check_deed(image, place, row[28:])

    def check_deed(self, image, place, told):
        if told == "?":
            return 1
        deed, many = unpacked(image, place)
        if deed[0] in ("jump", "call"):
            reach = "far" if deed[-1] else "near"
            when = f", {deed[1]}" if deed[0] == "jump" else ""
            self.assertEqual(told, f"{deed[0]}.{reach} p{deed[-2]}{when}")
        else:
            self.assertEqual(assembled(told), image[place:place + 1])
        return many

    def test_what_is_told_may_be_changed(self):
        told = listing([0])
        told.clear()
        self.assertEqual(len(listing([0])), 3)


if __name__ == "__main__":
    unittest.main()
