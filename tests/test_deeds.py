import unittest

from bitmill.deeds import packed, unpacked
from bitmill.errors import BadCount, BadDeed, BadImage, BadReach, NoDeed
from tests.deeds_told import TOLD, word, words

REST = word("0000 001 000 000000")
NUMBER_PARTS = [
    # A deed but for one part, where X stands; the least and the greatest number there.
    (("say", "X"), 0, 7), (("ask", "X"), 0, 7), (("push", "X"), 0, 7), (("pop", "X"), 0, 7),
    (("plus", "X", 1, 1), 0, 7), (("plus", 1, "X", 1), 0, 7), (("plus", 1, 1, "X"), -32, 31),
    (("set", "X", 1), 0, 7), (("set", 1, "X"), 0, 511),
    (("high", "X", 1), 0, 7), (("high", 1, "X"), 0, 127),
    (("load", "X", 1, 1), 0, 7), (("load", 1, "X", 1), 0, 7), (("load", 1, 1, "X"), 0, 63),
    (("store", "X", 1, 1), 0, 7), (("store", 1, "X", 1), 0, 7), (("store", 1, 1, "X"), 0, 63),
    (("jump", "always", "X", True), 0, 65535), (("call", "X", True), 0, 65535),
]
NUMBER_PARTS += [((name, *row), 0, 7)
                 for name in ["add", "less", "and", "or", "xor", "left", "right", "turn"]
                 for row in [("X", 1, 1), (1, "X", 1), (1, 1, "X")]]


def exchanged(deed, part):
    return tuple(part if old == "X" else old for old in deed)


class Packed(unittest.TestCase):
    def refuses(self, kind, *row, **named):
        with self.assertRaises(kind) as caught:
            packed(*row, **named)
        self.assertIs(type(caught.exception), kind)

    def test_words_of_each_deed(self):
        for deed, place, bits in TOLD:
            with self.subTest(deed=deed, place=place):
                told = packed(deed, place)
                self.assertEqual(told, words(bits))
                self.assertIs(type(told), tuple)
                self.assertEqual({type(number) for number in told}, {int})

    def test_all_names_have_been_tried(self):
        self.assertEqual(len({deed[0] for deed, _, _ in TOLD}), 22)

    def test_each_time_has_its_bits(self):
        for number, when in enumerate(["always", "zero", "some", "carry", "clear", "minus", "over"]):
            self.assertEqual(packed(("jump", when, 4, False), 3), (0x7000 + 512 * number,))
            self.assertEqual(packed(("jump", when, 4, True), 3), (0x8000 + 512 * number, 4))

    def test_place_stands_for_0_and_goes_by_name(self):
        self.assertEqual(packed(("call", 1, False)), (0x9000,))
        self.assertEqual(packed(place=5, deed=("call", 6, False)), (0x9000,))

    def test_least_and_greatest_of_each_number(self):
        for deed, least, most in NUMBER_PARTS:
            with self.subTest(deed=deed):
                for part in (least, most):
                    self.assertEqual(unpacked(packed(exchanged(deed, part)))[0], exchanged(deed, part))
                for part in (least - 1, most + 1, True, False, "always", ""):
                    self.refuses(BadDeed, exchanged(deed, part))

    def test_what_is_no_deed(self):
        for thing in [(), ("",), ("stop",), ("Halt",), ("halt", 0), ("rest", "rest"), ("back", 1), ("say",),
                      ("say", 1, 2), ("ask",), ("add", 1, 2), ("add", 1, 2, 3, 4), ("plus", 1, 2), ("set", 1),
                      ("set", 1, 2, 3), ("high", 1, 2, 3), ("load", 1, 2), ("store", 1, 2, 3, 4), (0,), (True,),
                      (1, 2, 3, 4), ("jump",), ("jump", "always", 5), ("jump", 5, True), ("jump", 0, 5, True),
                      ("jump", True, 5, True), ("jump", "always", 5, True, True), ("jump", "never", 5, True),
                      ("jump", "", 5, False), ("call", 5), ("call", "always", 5, True), ("call", 5, True, 0),
                      (False, 1), ("copy", 1, 2), ("fill", 1, 2)]:
            with self.subTest(thing=thing):
                self.refuses(BadDeed, thing)

    def test_far_is_true_or_false_and_no_number(self):
        for far in (0, 1, "True", "far", -1):
            self.refuses(BadDeed, ("jump", "always", 1, far))
            self.refuses(BadDeed, ("call", 1, far))

    def test_places(self):
        self.assertEqual(packed(("halt",), 199), (0,))
        self.assertEqual(packed(("jump", "always", 3, True), 199), (0x8000, 3))
        for place in (-1, 200, 65536, True, False):
            self.refuses(BadCount, ("halt",), place)
            self.refuses(BadCount, ("call", 1, False), place=place)

    def test_near_goals_ahead_and_behind(self):
        for place in (0, 1, 15, 16, 17, 100, 198, 199):
            for name in (("jump", "zero"), ("call",)):
                base = packed((*name, place + 1, False), place)[0]
                for goal in (place + 1 + 15, place + 1 - 16):
                    if goal >= 0:
                        self.assertEqual(packed((*name, goal, False), place), (base + (goal - place - 1) % 32,))
                for goal in (place + 1 + 16, place + 1 - 17, 65535):
                    if goal >= 0:
                        self.refuses(BadReach, (*name, goal, False), place)
                        self.assertEqual(len(packed((*name, goal, True), place)), 2)

    def test_a_near_goal_below_0_is_none(self):
        self.refuses(BadDeed, ("jump", "always", -1, False), 3)

    def test_order_of_refusals(self):
        self.refuses(BadDeed, ("stop",), 200)
        self.refuses(BadDeed, ("jump", "never", 900, False), 200)
        self.refuses(BadDeed, ("call", 65536, False), 0)
        self.refuses(BadCount, ("call", 900, False), 200)
        self.refuses(BadCount, ("call", 900, False), True)
        self.refuses(BadReach, ("call", 900, False), 199)


class Unpacked(unittest.TestCase):
    def refuses(self, kind, *row, **named):
        with self.assertRaises(kind) as caught:
            unpacked(*row, **named)
        self.assertIs(type(caught.exception), kind)
        return caught.exception

    def test_deed_of_words(self):
        for deed, place, bits in TOLD:
            for kind in (tuple, list):
                with self.subTest(deed=deed, place=place, kind=kind):
                    image = kind((REST,) * place + words(bits))
                    if len(image) <= 200:
                        self.assertEqual(repr(unpacked(image, place)), repr((deed, len(bits))))
                        self.assertEqual(unpacked(image=image + kind((7,)) * (len(image) < 200), place=place),
                                         (deed, len(bits)))

    def test_place_stands_for_0(self):
        self.assertEqual(unpacked([REST]), (("rest",), 1))
        self.assertEqual(unpacked((0xA000, 300)), (("call", 300, True), 2))

    def test_all_words(self):
        many = {}
        for number in range(65536):
            image = (REST,) * 20 + (number, 77)
            try:
                deed, size = unpacked(image, 20)
            except NoDeed:
                continue
            self.assertEqual(packed(deed, 20), image[20:20 + size])
            many[deed[0], size] = many.get((deed[0], size), 0) + 1
        self.assertEqual(many, {
            ("halt", 1): 1, ("rest", 1): 1, ("back", 1): 1, ("say", 1): 8, ("ask", 1): 8, ("push", 1): 8,
            ("pop", 1): 8, ("add", 1): 512, ("less", 1): 512, ("and", 1): 512, ("or", 1): 512, ("xor", 1): 512,
            ("left", 1): 512, ("right", 1): 512, ("turn", 1): 512, ("plus", 1): 4096, ("set", 1): 4096,
            ("high", 1): 1024, ("load", 1): 4096, ("store", 1): 4096, ("jump", 1): 224, ("jump", 2): 7,
            ("call", 1): 32, ("call", 2): 1})

    def test_words_of_no_deed(self):
        for bits in ["0000 000 000 000001", "0000 000 001 000000", "0000 001 111 000000", "0000 010 000 100000",
                     "0000 011 000 000001", "0000 100 000 100000", "0000 101 111 010000", "0000 110 000 000010",
                     "0000 111 000 000000", "0000 111 111 111111", "0100 000 01 0000000", "0100 000 10 0000000",
                     "0111 111 0000 00000", "0111 000 0001 00000", "0111 000 1000 00000", "1000 111 000000000",
                     "1000 000 000000001", "1000 000 100000000", "1001 0000001 00000", "1001 1000000 00000",
                     "1010 000000000001", "1010 100000000000", "1011 000000000000", "1100 000000000000",
                     "1101 000000000000", "1110 000000000000", "1111 111111111111"]:
            with self.subTest(bits=bits):
                self.refuses(NoDeed, (REST,) * 40 + (word(bits), 0), 40)

    def test_no_second_word(self):
        for first in (0x8000, 0x8C00, 0xA000):
            self.refuses(NoDeed, [first])
            self.refuses(NoDeed, [REST] * 199 + [first], 199)
            self.assertEqual(unpacked([first, 65535])[1], 2)
            self.assertEqual(unpacked([REST] * 198 + [first, 0], 198)[1], 2)

    def test_near_goals_below_0_are_none(self):
        for place in range(17):
            for back in range(1, 17):
                for form in (0x7000, 0x9000):
                    image = (REST,) * place + (form + 32 - back,)
                    goal = place + 1 - back
                    if goal < 0:
                        self.refuses(NoDeed, image, place)
                    else:
                        self.assertEqual(unpacked(image, place)[0][-2:], (goal, False))

    def test_near_goals_may_be_beyond_the_image(self):
        self.assertEqual(unpacked([REST] * 199 + [0x700F], 199), (("jump", "always", 215, False), 1))

    def test_places(self):
        self.refuses(BadCount, [])
        self.refuses(BadCount, (), 0)
        for place in (-1, 2, 200, True, False):
            self.refuses(BadCount, [REST, REST], place)
        self.refuses(BadCount, [REST] * 200, 200)

    def test_images(self):
        self.assertEqual(unpacked([REST] * 200, 199), (("rest",), 1))
        self.assertEqual(self.refuses(BadImage, [REST] * 201).number, 200)
        self.assertEqual(self.refuses(BadImage, [REST] * 205).number, 200)
        self.assertEqual(self.refuses(BadImage, [REST, 65536, -1]).number, 1)
        self.assertEqual(self.refuses(BadImage, (-1,)).number, 0)
        self.assertEqual(self.refuses(BadImage, (65535, 0, True)).number, 2)
        self.assertEqual(self.refuses(BadImage, (65535, False)).number, 1)
        self.assertEqual(self.refuses(BadImage, [REST] * 199 + [-1, 0]).number, 199)
        self.assertEqual(self.refuses(BadImage, [REST] * 200 + [-1]).number, 200)

    def test_order_of_refusals(self):
        self.refuses(BadImage, [-1], 9)
        self.refuses(BadImage, [REST] * 201, True)
        self.refuses(BadCount, [0xFFFF], 1)

    def test_what_is_handed_in_stays(self):
        image = [0x8000, 5, REST]
        told = unpacked(image)
        self.assertEqual(image, [0x8000, 5, REST])
        image[1] = 6
        self.assertEqual(told, (("jump", "always", 5, True), 2))
        self.assertEqual(unpacked(image), (("jump", "always", 6, True), 2))


if __name__ == "__main__":
    unittest.main()
