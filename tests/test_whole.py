"""What the document promises over the whole interface: kinds, what is handed in, what is told, refusals' order."""

import copy
import unittest

from bitmill.deeds import packed, unpacked
from bitmill.errors import (BadCount, BadDeed, BadGiven, BadImage, BadList, BadReach, BadRow, MillError, NoDeed,
                            NoMend)
from bitmill.joining import assembled, places
from bitmill.lists import deeds_of, image_of, lean
from bitmill.mill import Mill
from bitmill.seals import mended, sealed
from bitmill.shown import listing, shown

IMAGE = [0x3205, 0x0640, 0x8200, 0x0001, 0x9005, 0x0200, 0x0000]
DEEDS = [("set", 1, 5), ("say", 1), ("rest",), ("jump", "zero", 0), ("call", 3), ("halt",)]
TEXT = "a: fill r1, 5 * 3\n.macro m x\nsay {x}\n.end\nm r1\njump a, some\nb: halt\n"

# Of each function: what it is handed by the names of the interface, in their order.
CALLS = [
    (packed, {"deed": ("jump", "zero", 5, False), "place": 3}),
    (unpacked, {"image": IMAGE, "place": 2}),
    (assembled, {"text": TEXT}),
    (places, {"text": TEXT}),
    (shown, {"image": IMAGE}),
    (listing, {"image": IMAGE, "wide": 30}),
    (deeds_of, {"image": [0x3205, 0x0600, 0x8200, 0x0001, 0x901b]}),
    (image_of, {"deeds": DEEDS}),
    (lean, {"deeds": DEEDS}),
    (sealed, {"image": IMAGE}),
    (mended, {"block": [1, 3, 2, 0x4001]}),
]

KINDS = {packed: tuple, unpacked: tuple, assembled: tuple, places: list, shown: str, listing: list, deeds_of: list,
         image_of: tuple, lean: list, sealed: list, mended: tuple}

# Of each function with an image or a list of deeds: what else it takes.
OF_IMAGES = [(unpacked, (0,)), (Mill, ()), (shown, ()), (listing, ()), (deeds_of, ()), (sealed, ())]


class Whole(unittest.TestCase):
    def test_kinds(self):
        for call, given in CALLS:
            self.assertIs(type(call(**given)), KINDS[call], call)

    def test_arguments_by_places_or_names(self):
        for call, given in CALLS:
            told = call(**given)
            self.assertEqual(call(*given.values()), told)
            backwards = dict(reversed(list(given.items())))
            self.assertEqual(call(**backwards), told)

    def test_what_is_left_out(self):
        self.assertEqual(packed(("halt",)), packed(("halt",), 0))
        self.assertEqual(unpacked(IMAGE), unpacked(IMAGE, 0))
        self.assertEqual(listing(IMAGE), listing(IMAGE, 0))

    def test_what_is_handed_in_is_not_changed(self):
        for call, given in CALLS:
            before = copy.deepcopy(given)
            call(**given)
            self.assertEqual(given, before)

    def test_the_same_is_told_again(self):
        first = [call(**given) for call, given in CALLS]
        again = [call(**given) for call, given in reversed(CALLS)]
        self.assertEqual(first, again[::-1])

    def test_what_is_told_may_be_changed(self):
        for call, given in CALLS:
            told = call(**given)
            if isinstance(told, list):
                wanted = list(told)
                told.reverse()
                told.append(None)
                self.assertEqual(call(**given), wanted)

    def test_what_is_handed_in_is_not_what_is_told(self):
        for deeds in [[("halt",)], [("say", 1), ("halt",)], []]:
            told = lean(deeds)
            self.assertEqual(told, deeds)
            told.append(("rest",))
            self.assertNotEqual(told, deeds)

    def test_tuples_and_lists_alike(self):
        for call, given in CALLS:
            name, thing = list(given.items())[0]
            if isinstance(thing, list):
                self.assertEqual(call(**{**given, name: tuple(thing)}), call(**given))

    def test_what_is_refused_changes_nothing(self):
        image = [0xffff, 70000]
        deeds = [("rest",), ("nop",)]
        for call, thing in [(shown, image), (listing, image), (deeds_of, image), (sealed, image), (mended, image),
                            (image_of, deeds), (lean, deeds)]:
            with self.assertRaises(MillError):
                call(thing)
        self.assertEqual(image, [0xffff, 70000])
        self.assertEqual(deeds, [("rest",), ("nop",)])
        self.assertEqual(assembled("rest"), (512,))

    def test_a_refused_text_leaves_nothing_behind(self):
        for text in [".macro m\nrest\n.end\nnop", "a:\na:", ".let a, 5\n.word b"]:
            with self.assertRaises(BadRow):
                assembled(text)
        for text in ["m", ".word a"]:
            with self.assertRaises(BadRow):
                assembled(text)

    def test_labels_and_macros_of_one_text_are_not_those_of_another(self):
        self.assertEqual(assembled("a:\n.macro m\nb@:\n.end\nm\nm"), ())
        self.assertEqual(places("a:\n.macro m\nb@:\n.end\nm"), [("a", 0), ("bq0", 0)])


class Refusals(unittest.TestCase):
    def refused(self, error, call, *given, **named):
        with self.assertRaises(MillError) as caught:
            call(*given, **named)
        self.assertIs(type(caught.exception), error)
        return caught.exception

    def test_every_image(self):
        for call, more in OF_IMAGES:
            for image, number in [([65536], 0), ([0, -1], 1), ((0, 0, "a", None), 2), ([0, True], 1), ([False], 0),
                                  ((0,) * 201, 200), ([0] * 200 + [None], 200), ([0] * 199 + [None, None], 199)]:
                self.assertEqual(self.refused(BadImage, call, image, *more).number, number)

    def test_two_hundred_words(self):
        for call, more in OF_IMAGES:
            call([0] * 200, *more)
            call((0x3fff,) * 200, *more)

    def test_every_list_of_deeds(self):
        for call in [image_of, lean]:
            for deeds, number in [([("nop",)], 0), ([("rest",), ["rest"]], 1), ([("halt",)] * 201, 200)]:
                self.assertEqual(self.refused(BadList, call, deeds).number, number)
            call([("halt",)] * 200)

    def test_what_is_handed_in_first_goes_first(self):
        self.refused(BadDeed, packed, ("nop",), -1)
        self.refused(BadDeed, packed, ("jump", "zero", -1, False), 200)
        self.refused(BadCount, packed, ("jump", "zero", 100, False), 200)
        self.refused(BadReach, packed, ("jump", "zero", 100, False), 0)
        self.refused(BadImage, unpacked, [65536], -1)
        self.refused(BadCount, unpacked, [0xffff], 1)
        self.refused(NoDeed, unpacked, [0xffff], 0)
        self.refused(BadImage, Mill, [65536], [65536])
        self.refused(BadGiven, Mill, [0xffff], [65536])
        # By their names in another order, too.
        self.refused(BadImage, Mill, given=[65536], image=[65536])
        self.refused(BadDeed, packed, place=-1, deed=("nop",))
        self.refused(BadImage, unpacked, place=-1, image=[65536])

    def test_within_one_thing_handed_in(self):
        self.assertEqual(self.refused(BadImage, deeds_of, [0xffff, 65536]).number, 1)
        self.assertEqual(self.refused(BadImage, deeds_of, [0x9005, 0xffff]).number, 1)
        self.assertEqual(self.refused(BadImage, mended, [0, 65536]).number, 1)
        self.assertEqual(self.refused(BadImage, mended, [0, 0]).number, 2)
        self.refused(NoMend, mended, [3, 0, 0])
        self.assertEqual(self.refused(BadList, image_of, [("call", 0)] * 199 + [()]).number, 199)
        self.assertEqual(self.refused(BadList, image_of, [("call", 0)] * 199).number, 199)
        self.assertEqual(self.refused(BadList, image_of, [("call", 0)] * 200).number, 200)
        error = self.refused(BadRow, assembled, "nop\n1: rest\n")
        self.assertEqual((error.row, error.why), (1, "form"))


class Together(unittest.TestCase):
    """One program through all of the interface."""

    TEXT = """
    ; says the numbers given, each times two, until a 0 comes
    .macro twice r, by = r7
      set {by}, 1
      left {r}, {r}, {by}
    .end
    more: ask r1
      plus r1, r1, 0
      jump end, zero
      call show
      jump more
    end: halt
    show: twice r1
      rest
      say r1
      back
    """

    def test_through_all(self):
        image = assembled(self.TEXT)
        self.assertEqual(places(self.TEXT), [("more", 0), ("end", 5), ("show", 6)])
        self.assertEqual(assembled(shown(image)), image)
        self.assertEqual(len(listing(image)), len(image) + 2)
        deeds = deeds_of(image)
        self.assertEqual(image_of(deeds), image)
        short = lean(deeds)
        self.assertEqual(len(short), len(deeds) - 1)
        for told in [image, image_of(short), mended(sealed(image)[0])[0]]:
            mill = Mill(told, [3, 5, 0, 7])
            self.assertEqual(mill.run(), "halt")
            self.assertEqual(mill.said(), [6, 10])


if __name__ == "__main__":
    unittest.main()
