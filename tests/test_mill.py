import unittest

from bitmill.deeds import packed
from bitmill.errors import BadCount, BadGiven, BadImage
from bitmill.mill import Mill

SUMS = ["add", "less", "and", "or", "xor", "left", "right", "turn"]
NO_FLAGS = (False, False, False)


def image_of(*deeds):
    """The words of deeds, one behind the other, as a list."""
    image = []
    for deed in deeds:
        image += packed(deed, len(image))
    return image


def filled(reg, word):
    """The deeds after which a register holds a word."""
    return [("set", reg, word % 512), ("high", reg, word // 512)]


def mill_of(*deeds, given=None):
    return Mill(image_of(*deeds), given)


def done(*deeds, given=None):
    """A mill that has done all these deeds, one behind the other."""
    mill = mill_of(*deeds, given=given)
    assert mill.step(len(deeds)) == "", deeds
    return mill


def all_of(mill):
    return mill.state(), mill.memory(), mill.said()


class MillTest(unittest.TestCase):
    def refuses(self, kind, call, *row, **named):
        with self.assertRaises(kind) as caught:
            call(*row, **named)
        self.assertIs(type(caught.exception), kind)
        return caught.exception

    def stays(self, mill, word, call=None):
        """The next deed can't be done, with a word, and nothing is changed."""
        ahead = all_of(mill)
        for go in [call] if call else [mill.step, mill.run]:
            self.assertEqual(go(), word)
            self.assertEqual(all_of(mill), ahead)


class Made(MillTest):
    def test_new(self):
        mill = Mill([0x0200])
        self.assertEqual(repr(mill.state()),
                         "((0, 0, 0, 0, 0, 0, 0, 0), (False, False, False), (), (), 0, 0)")
        self.assertEqual(mill.memory(), (0,) * 64)
        self.assertIs(type(mill.memory()), tuple)
        self.assertEqual(mill.said(), [])
        self.assertIs(type(mill.said()), list)

    def test_images(self):
        self.assertEqual(Mill([]).step(), "beyond")
        self.assertEqual(Mill(()).run(), "beyond")
        self.assertEqual(Mill([0x0200] * 200).run(), "beyond")
        self.assertEqual(Mill((0x0200,) * 200).step(200), "")
        self.assertEqual(self.refuses(BadImage, Mill, [0x0200] * 201).number, 200)
        self.assertEqual(self.refuses(BadImage, Mill, (0, 65535, 65536, -1)).number, 2)
        self.assertEqual(self.refuses(BadImage, Mill, [True]).number, 0)
        self.assertEqual(self.refuses(BadImage, Mill, [0] * 201 + [-1]).number, 200)

    def test_numbers_given(self):
        for given in (None, [], ()):
            self.stays(mill_of(("ask", 0), given=given), "asks")
        self.assertEqual(done(("ask", 0), given=[65535]).state()[0][0], 65535)
        mill = mill_of(*[("ask", 0), ("say", 0)] * 99, given=tuple(range(100)))
        self.assertEqual(mill.run(), "beyond")
        self.assertEqual(mill.said(), list(range(99)))
        self.assertEqual(self.refuses(BadGiven, Mill, [], [0] * 101).number, 100)
        self.assertEqual(self.refuses(BadGiven, Mill, image=[], given=(0,) * 103).number, 100)
        self.assertEqual(self.refuses(BadGiven, Mill, [], [0, 65536]).number, 1)
        self.assertEqual(self.refuses(BadGiven, Mill, [], [-1, 65536]).number, 0)
        self.assertEqual(self.refuses(BadGiven, Mill, [], [0, 0, False]).number, 2)
        self.assertEqual(self.refuses(BadGiven, Mill, [], [0] * 99 + [-1]).number, 99)
        self.assertEqual(self.refuses(BadGiven, Mill, [], [0] * 99 + [-1, 0]).number, 99)

    def test_the_image_is_refused_first(self):
        self.assertEqual(self.refuses(BadImage, Mill, [0, -1], [-1]).number, 1)
        self.assertEqual(self.refuses(BadImage, Mill, given=[-1], image=[-1]).number, 0)

    def test_what_is_handed_in_is_neither_changed_nor_kept(self):
        image = image_of(("ask", 1), ("ask", 2), ("say", 1), ("say", 2))
        given = [5]
        mill = Mill(image, given)
        mill.step()
        mill.give(9)
        self.assertEqual(given, [5])
        given[0] = 7
        given.append(8)
        kept = list(image)
        image[2] = 0
        image.clear()
        self.assertEqual(mill.run(), "beyond")
        self.assertEqual(mill.said(), [5, 9])
        mill.back(4)
        image.extend(kept)
        self.assertEqual(mill.run(), "beyond")
        self.assertEqual(mill.said(), [5, 9])

    def test_what_is_told_may_be_changed(self):
        mill = done(("say", 0))
        told = mill.said()
        told.append(3)
        told[0] = 4
        self.assertEqual(mill.said(), [0])
        state, memory = mill.state(), mill.memory()
        self.assertEqual([type(part) for part in state], [tuple] * 4 + [int] * 2)
        self.assertEqual((state, memory), (mill.state(), mill.memory()))

    def test_two_mills_of_one_image(self):
        image = image_of(("ask", 0), ("store", 0, 1, 3), ("push", 0), ("say", 0), ("call", 0, False))
        given = [5, 6]
        one, other = Mill(image, given), Mill(image, given)
        fresh = all_of(other)
        one.stop_at(4)
        one.give(7)
        self.assertEqual(one.run(), "mark")
        self.assertEqual(all_of(other), fresh)
        self.assertEqual(other.run(), "asks")
        self.assertEqual(other.said(), [5, 6])
        self.assertEqual(one.said(), [5])
        one.back(4)
        self.assertEqual(all_of(one), fresh)
        self.assertEqual(other.said(), [5, 6])
        one.stop_at(4, False)
        self.assertEqual(one.run(), "asks")
        self.assertEqual(one.said(), [5, 6, 7])


class Sums(MillTest):
    def reckons(self, name, a, b, came, carry):
        """A deed of a and b brings a word, a carry, and the two other flags that come of the word."""
        for d, x, y in ((3, 1, 2), (1, 1, 2), (2, 1, 2), (0, 7, 6)):
            mill = done(*filled(x, a), *filled(y, b), (name, d, x, y))
            wanted = [0] * 8
            wanted[x], wanted[y] = a, b
            wanted[d] = came
            state = mill.state()
            self.assertEqual(state[0], tuple(wanted), (name, a, b))
            self.assertEqual(repr(state[1]), repr((came == 0, carry, came >= 32768)), (name, a, b))
            self.assertEqual((mill.memory(), state[2], state[3]), ((0,) * 64, (), ()))

    def test_add(self):
        self.reckons("add", 2, 3, 5, False)
        self.reckons("add", 65535, 0, 65535, False)
        self.reckons("add", 65535, 1, 0, True)
        self.reckons("add", 65535, 65535, 65534, True)
        self.reckons("add", 32767, 1, 32768, False)
        self.reckons("add", 32767, 0, 32767, False)
        self.reckons("add", 0, 0, 0, False)

    def test_less(self):
        self.reckons("less", 5, 3, 2, False)
        self.reckons("less", 3, 3, 0, False)
        self.reckons("less", 3, 5, 65534, True)
        self.reckons("less", 0, 65535, 1, True)
        self.reckons("less", 65535, 32767, 32768, False)

    def test_bit_by_bit(self):
        a, b = 0b1100_0000_1111_1100, 0b1010_1111_0000_1010
        self.reckons("and", a, b, 0b1000_0000_0000_1000, False)
        self.reckons("or", a, b, 0b1110_1111_1111_1110, False)
        self.reckons("xor", a, b, 0b0110_1111_1111_0110, False)
        self.reckons("and", 21845, 43690, 0, False)
        self.reckons("xor", 65535, 65535, 0, False)
        self.reckons("or", 0, 0, 0, False)
        self.reckons("or", 0, 32768, 32768, False)

    def test_left(self):
        self.reckons("left", 3, 0, 3, False)
        self.reckons("left", 3, 1, 6, False)
        self.reckons("left", 3, 14, 49152, False)
        self.reckons("left", 3, 15, 32768, True)
        self.reckons("left", 2, 15, 0, True)
        self.reckons("left", 1, 15, 32768, False)
        self.reckons("left", 0, 15, 0, False)
        self.reckons("left", 65535, 0, 65535, False)
        self.reckons("left", 3, 16, 3, False)
        self.reckons("left", 3, 65521, 6, False)
        self.reckons("left", 3, 65535, 32768, True)

    def test_right(self):
        self.reckons("right", 65535, 0, 65535, False)
        self.reckons("right", 6, 1, 3, False)
        self.reckons("right", 7, 1, 3, True)
        self.reckons("right", 4, 2, 1, False)
        self.reckons("right", 6, 2, 1, True)
        self.reckons("right", 1, 1, 0, True)
        self.reckons("right", 32768, 15, 1, False)
        self.reckons("right", 32769, 15, 1, True)
        self.reckons("right", 0, 15, 0, False)
        self.reckons("right", 7, 16, 7, False)
        self.reckons("right", 7, 4097, 3, True)

    def test_turn(self):
        self.reckons("turn", 0x8001, 0, 0x8001, False)
        self.reckons("turn", 0x8001, 1, 0x0003, False)
        self.reckons("turn", 0x1234, 4, 0x2341, False)
        self.reckons("turn", 0x1234, 8, 0x3412, False)
        self.reckons("turn", 0x1234, 15, 0x091A, False)
        self.reckons("turn", 0x0001, 15, 0x8000, False)
        self.reckons("turn", 0x1234, 16, 0x1234, False)
        self.reckons("turn", 0x1234, 0xFFF4, 0x2341, False)
        self.reckons("turn", 0, 7, 0, False)

    def test_one_register_for_all(self):
        for name, came in (("add", 14), ("less", 0), ("and", 7), ("or", 7), ("xor", 0), ("left", 896),
                           ("right", 0), ("turn", 896)):
            self.assertEqual(done(*filled(4, 7), (name, 4, 4, 4)).state()[0][4], came, name)

    def test_plus(self):
        for a, n, came, carry in ((5, 0, 5, False), (5, 31, 36, False), (5, -5, 0, False), (5, -6, 65535, True),
                                  (0, -32, 65504, True), (65535, 1, 0, True), (65535, 31, 30, True),
                                  (65504, 31, 65535, False), (32768, -1, 32767, False), (32767, 1, 32768, False),
                                  (0, 0, 0, False), (65535, -32, 65503, False)):
            for d in (2, 6):
                state = done(*filled(2, a), ("plus", d, 2, n)).state()
                self.assertEqual(state[0][d], came)
                self.assertEqual(repr(state[1]), repr((came == 0, carry, came >= 32768)), (a, n))

    def test_flags_are_told_anew_by_each_sum(self):
        start = filled(1, 65535) + [("plus", 2, 1, 1)]
        self.assertEqual(done(*start).state()[1], (True, True, False))
        for name in ["and", "or", "xor", "turn"]:
            self.assertEqual(done(*start, (name, 3, 1, 0)).state()[1], (name == "and", False, name != "and"))
        for name in ["add", "less", "left", "right"]:
            self.assertEqual(done(*start, (name, 3, 1, 0)).state()[1], (False, False, True))
        self.assertEqual(done(*start, ("plus", 3, 1, 0)).state()[1], (False, False, True))

    def test_no_other_deed_changes_flags(self):
        for start, wanted in ((filled(1, 65535) + [("plus", 2, 1, 1)], (True, True, False)),
                              (filled(1, 32768) + [("plus", 2, 1, 0)], (False, False, True)),
                              (filled(1, 1) + [("plus", 2, 1, 0)], NO_FLAGS)):
            behind = len(start)
            for deeds in ([("rest",)], [("say", 0)], [("ask", 0)], [("push", 0)], [("push", 1), ("pop", 0)],
                          [("set", 0, 0)], [("set", 0, 511)], [("high", 0, 0)], [("high", 0, 127)],
                          [("load", 1, 0, 0)], [("store", 1, 0, 0)], [("jump", "always", behind + 1, False)],
                          [("jump", "over", behind + 1, False)], [("jump", "minus", behind + 2, True)],
                          [("call", behind + 1, False), ("rest",)]):
                mill = done(*start, *deeds, given=[0])
                self.assertEqual(mill.state()[1], wanted, deeds)
        mill = mill_of(("call", 2, False), ("halt",), ("set", 1, 0), ("plus", 1, 1, -1), ("back",))
        self.assertEqual(mill.run(), "halt")
        self.assertEqual(mill.state()[1], (False, True, True))


class Other(MillTest):
    def test_set_and_high(self):
        self.assertEqual(done(("set", 3, 511)).state()[0], (0, 0, 0, 511, 0, 0, 0, 0))
        self.assertEqual(done(*filled(3, 65535)).state()[0][3], 65535)
        self.assertEqual(done(*filled(3, 65535), ("set", 3, 5)).state()[0][3], 5)
        self.assertEqual(done(*filled(3, 65535), ("high", 3, 0)).state()[0][3], 511)
        self.assertEqual(done(*filled(3, 65535), ("high", 3, 65)).state()[0][3], 65 * 512 + 511)
        self.assertEqual(done(("high", 0, 127)).state()[0][0], 65024)

    def test_cells(self):
        for a, n, cell in ((0, 0, 0), (0, 63, 63), (1, 63, 0), (63, 1, 0), (63, 63, 62), (64, 5, 5), (130, 0, 2),
                           (65535, 0, 63), (65535, 63, 62), (65535, 1, 0)):
            wanted = [0] * 64
            wanted[cell] = 777
            mill = done(*filled(1, a), *filled(2, 777), ("store", 2, 1, n), ("load", 4, 1, n), ("load", 5, 3, cell))
            self.assertEqual(mill.memory(), tuple(wanted))
            self.assertEqual(mill.state()[0], (0, a, 777, 0, 777, 777, 0, 0))
        self.assertEqual(done(*filled(1, 70), ("store", 1, 1, 0)).memory()[6], 70)
        self.assertEqual(done(*filled(1, 70), ("store", 1, 1, 0), ("load", 1, 1, 0)).state()[0][1], 70)

    def test_say_and_ask(self):
        mill = done(("ask", 1), ("say", 1), ("ask", 1), ("say", 1), ("say", 1), ("say", 0), given=(3, 65535, 4))
        self.assertEqual(mill.said(), [3, 65535, 65535, 0])
        self.assertEqual(mill.state()[0][1], 65535)

    def test_pile(self):
        mill = done(("set", 1, 5), ("push", 1), ("push", 0), ("set", 1, 6), ("push", 1))
        self.assertEqual(mill.state()[2], (5, 0, 6))
        mill = done(("set", 1, 5), ("push", 1), ("push", 0), ("set", 1, 6), ("push", 1), ("pop", 4), ("pop", 5))
        self.assertEqual(mill.state()[2], (5,))
        self.assertEqual(mill.state()[0], (0, 6, 0, 0, 6, 0, 0, 0))

    def test_jumps(self):
        flags = {(False, False, False): filled(1, 1) + [("plus", 2, 1, 0)],
                 (False, False, True): filled(1, 32768) + [("plus", 2, 1, 0)],
                 (False, True, False): filled(1, 65535) + [("plus", 2, 1, 2)],
                 (False, True, True): filled(1, 0) + [("plus", 2, 1, -1)],
                 (True, False, False): filled(1, 0) + [("plus", 2, 1, 0)],
                 (True, True, False): filled(1, 65535) + [("plus", 2, 1, 1)]}
        for (zero, carry, minus), start in flags.items():
            times = {"always": True, "zero": zero, "some": not zero, "carry": carry, "clear": not carry,
                     "minus": minus, "over": not minus}
            for when, is_time in times.items():
                for far in (False, True):
                    mill = done(*start, ("jump", when, 1, far))
                    self.assertEqual(mill.state()[1], (zero, carry, minus))
                    self.assertEqual(mill.state()[4], 1 if is_time else len(start) + 1 + far, (when, far))

    def test_call_and_back(self):
        mill = mill_of(("call", 4, True), ("say", 0), ("halt",), ("call", 6, False), ("back",), ("set", 0, 9),
                       ("back",))
        for calls, place in (((2,), 4), ((2, 5), 6), ((2, 5), 7), ((2,), 5), ((), 2)):
            self.assertEqual(mill.step(), "")
            self.assertEqual(mill.state()[3:5], (calls, place))
        self.assertEqual(mill.run(), "halt")
        self.assertEqual(mill.said(), [9])
        self.assertEqual(mill.state()[3:], ((), 3, 6))

    def test_rest_does_nothing(self):
        mill = done(("rest",))
        self.assertEqual(all_of(mill), (((0,) * 8, NO_FLAGS, (), (), 1, 1), (0,) * 64, []))


class Hindered(MillTest):
    def test_beyond(self):
        self.stays(Mill([]), "beyond")
        self.stays(done(("rest",)), "beyond")
        for goal in (2, 3, 200, 65535):
            mill = done(("jump", "always", goal, True))
            self.assertEqual(mill.state()[4], goal)
            self.stays(mill, "beyond")
        mill = mill_of(("call", 15, False), *[("rest",)] * 10)
        self.assertEqual(mill.step(), "")
        self.assertEqual(mill.state()[3:5], ((1,), 15))
        self.stays(mill, "beyond")

    def test_none(self):
        for words in ([1], [0xFFFF], [0x0E00], [0x7E00], [0x8000], [0xA000], [0xA001, 0], [0x9010], [0x701E]):
            self.stays(Mill(words), "none")
        mill = Mill([0x0200, 0x0201])
        self.assertEqual(mill.step(), "")
        self.stays(mill, "none")

    def test_a_goal_in_the_midst_of_a_deed(self):
        mill = Mill([0x7001, 0x8000, 0x0640])
        self.assertEqual(mill.step(2), "")
        self.assertEqual(mill.said(), [0])
        self.stays(mill, "beyond")

    def test_halt(self):
        self.stays(mill_of(("halt",)), "halt")
        self.stays(Mill([0]), "halt")

    def test_asks(self):
        mill = mill_of(("ask", 0), ("ask", 0), given=[4])
        self.assertEqual(mill.step(), "")
        self.stays(mill, "asks")
        mill.give(6)
        self.assertEqual(mill.step(), "")
        self.assertEqual(mill.state()[0][0], 6)

    def test_full_pile(self):
        mill = mill_of(*[("plus", 0, 0, 1), ("push", 0)] * 17)
        self.assertEqual(mill.step(32), "")
        self.assertEqual(mill.state()[2], tuple(range(1, 17)))
        self.assertEqual(mill.step(), "")
        self.stays(mill, "full")
        self.assertEqual(len(mill.state()[2]), 16)

    def test_full_calls(self):
        mill = mill_of(("call", 0, False))
        self.assertEqual(mill.step(16), "")
        self.assertEqual(mill.state()[3], (1,) * 16)
        self.stays(mill, "full")
        mill = mill_of(("call", 0, True))
        self.assertEqual(mill.run(), "full")
        self.assertEqual(mill.state()[3:], ((2,) * 16, 0, 16))

    def test_pile_and_calls_are_full_each_by_itself(self):
        mill = mill_of(*[("push", 0)] * 16, ("call", 17, False), ("rest",))
        self.assertEqual(mill.run(), "beyond")
        self.assertEqual((len(mill.state()[2]), mill.state()[3]), (16, (17,)))
        self.stays(mill_of(("pop", 0)), "empty")
        mill = mill_of(("call", 1, False), ("pop", 0))
        self.assertEqual(mill.step(2), "empty")
        mill = mill_of(("push", 0), ("back",))
        self.assertEqual(mill.step(2), "empty")

    def test_empty(self):
        self.stays(mill_of(("pop", 3)), "empty")
        self.stays(mill_of(("back",)), "empty")
        mill = mill_of(("push", 0), ("pop", 1), ("pop", 1))
        self.assertEqual(mill.run(), "empty")
        self.assertEqual(mill.state()[2:], ((), (), 2, 2))
        mill = mill_of(("call", 1, False), ("back",))
        self.assertEqual(mill.run(), "empty")
        self.assertEqual(mill.state()[2:], ((), (), 1, 2))


class Done(MillTest):
    def test_step(self):
        mill = mill_of(*[("rest",)] * 3, ("halt",))
        self.assertEqual(mill.step(), "")
        self.assertEqual(mill.state()[4:], (1, 1))
        self.assertEqual(mill.step(2), "")
        self.assertEqual(mill.state()[4:], (3, 3))
        self.assertEqual(mill.step(count=7), "halt")
        self.assertEqual(mill.state()[4:], (3, 3))
        mill = mill_of(*[("rest",)] * 3, ("halt",))
        self.assertEqual(mill.step(4), "halt")
        self.assertEqual(mill.state()[4:], (3, 3))

    def test_run(self):
        mill = mill_of(*[("rest",)] * 3, ("halt",))
        self.assertEqual(mill.run(3), "")
        self.assertEqual(mill.state()[4:], (3, 3))
        mill = mill_of(("jump", "always", 0, False))
        self.assertEqual(mill.run(), "")
        self.assertEqual(mill.state()[5], 1000)
        self.assertEqual(mill.run(most=1), "")
        self.assertEqual(mill.state()[5], 1001)

    def test_counts(self):
        for name in ("step", "run"):
            mill = mill_of(("plus", 0, 0, 1), ("jump", "always", 0, False))
            go = getattr(mill, name)
            ahead = all_of(mill)
            for count in (0, -1, 5001, 65536, True, False):
                self.refuses(BadCount, go, count)
            self.assertEqual(all_of(mill), ahead)
            self.assertEqual(go(5000), "")
            self.assertEqual(mill.state()[0][0], 2500)
            self.assertEqual(go(1), "")
            self.assertEqual(mill.state()[5], 5001)

    def test_a_count_is_refused_even_if_no_deed_can_be_done(self):
        for name, limit in (("step", 0), ("run", 5001)):
            self.refuses(BadCount, getattr(Mill([0]), name), limit)


class Stops(MillTest):
    def test_mark(self):
        mill = mill_of(*[("rest",)] * 4, ("halt",))
        self.assertIsNone(mill.stop_at(2))
        self.assertEqual(mill.run(), "mark")
        self.assertEqual(mill.state()[4:], (2, 2))
        self.assertEqual(mill.run(), "halt")
        self.assertEqual(mill.state()[4:], (4, 4))

    def test_not_ahead_of_the_first(self):
        mill = mill_of(("plus", 1, 1, 1), ("rest",), ("jump", "always", 0, False))
        mill.stop_at(0)
        self.assertEqual(mill.run(), "mark")
        self.assertEqual(mill.state()[4:], (0, 3))
        self.assertEqual(mill.run(), "mark")
        self.assertEqual(mill.state()[4:], (0, 6))
        mill.stop_at(1)
        self.assertEqual(mill.run(), "mark")
        self.assertEqual(mill.state()[4:], (1, 7))
        self.assertEqual(mill.run(), "mark")
        self.assertEqual(mill.state()[4:], (0, 9))

    def test_a_deed_that_leads_to_itself(self):
        mill = mill_of(("jump", "always", 0, False))
        mill.stop_at(0)
        self.assertEqual(mill.run(), "mark")
        self.assertEqual(mill.state()[4:], (0, 1))

    def test_step_passes_stops(self):
        mill = mill_of(*[("rest",)] * 4, ("halt",))
        mill.stop_at(1)
        mill.stop_at(2)
        self.assertEqual(mill.step(9), "halt")

    def test_taken_back(self):
        mill = mill_of(*[("rest",)] * 4, ("halt",))
        mill.stop_at(1)
        mill.stop_at(3, True)
        mill.stop_at(1, False)
        mill.stop_at(place=2, on=False)
        self.assertEqual(mill.run(), "mark")
        self.assertEqual(mill.state()[4], 3)
        mill.back(3)
        mill.stop_at(3, on=False)
        mill.stop_at(3, on=False)
        self.assertEqual(mill.run(), "halt")
        mill.back(4)
        mill.stop_at(3)
        mill.stop_at(3)
        self.assertEqual(mill.run(), "mark")
        mill.back(3)
        mill.stop_at(3, False)
        self.assertEqual(mill.run(), "halt")

    def test_so_many_deeds_done_end_a_run_without_mark(self):
        mill = mill_of(*[("rest",)] * 4, ("halt",))
        mill.stop_at(2)
        self.assertEqual(mill.run(2), "")
        self.assertEqual(mill.state()[4], 2)
        self.assertEqual(mill.run(2), "")
        self.assertEqual(mill.run(3), "halt")
        mill.back(4)
        self.assertEqual(mill.run(3), "mark")

    def test_mark_goes_ahead_of_what_hinders(self):
        for deed, word in ((("halt",), "halt"), (("ask", 0), "asks"), (("pop", 0), "empty")):
            mill = mill_of(("rest",), deed)
            mill.stop_at(1)
            self.assertEqual(mill.run(), "mark")
            self.assertEqual(mill.run(), word)
        for goal, word in ((1, "none"), (2, "beyond"), (65535, "beyond")):
            mill = mill_of(("jump", "always", goal, True))
            mill.stop_at(goal)
            self.assertEqual(mill.run(), "mark")
            self.assertEqual(mill.run(), word)

    def test_places(self):
        mill = mill_of(*[("rest",)] * 2)
        for place in (-1, 65536, True, False):
            self.refuses(BadCount, mill.stop_at, place)
            self.refuses(BadCount, mill.stop_at, place, False)
        self.assertEqual(mill.run(), "beyond")
        for place in (0, 200, 65535):
            self.assertIsNone(mill.stop_at(place))
            self.assertIsNone(mill.stop_at(place, False))

    def test_a_refused_stop_stops_nowhere(self):
        mill = mill_of(*[("rest",)] * 3)
        self.refuses(BadCount, mill.stop_at, True)
        self.assertEqual(mill.run(), "beyond")
        mill.back(3)
        mill.stop_at(1)
        self.refuses(BadCount, mill.stop_at, True, False)
        self.assertEqual(mill.run(), "mark")


class Back(MillTest):
    def test_over_everything(self):
        mill = mill_of(("set", 1, 300), ("high", 1, 100), ("plus", 2, 1, -7), ("ask", 3), ("say", 3), ("push", 1),
                       ("store", 1, 2, 9), ("load", 4, 2, 9), ("call", 10, False), ("halt",), ("pop", 5),
                       ("less", 6, 0, 1), ("jump", "carry", 14, False), ("rest",), ("turn", 7, 1, 3), ("say", 7),
                       ("rest",), ("store", 7, 0, 0), ("back",), given=[40])
        seen = [all_of(mill)]
        while mill.step() == "":
            seen.append(all_of(mill))
        self.assertEqual(len(seen), 18)
        for many in (1, 2, 5, 16, 17):
            self.assertIsNone(mill.back(many))
            self.assertEqual(all_of(mill), seen[-1 - many])
            self.assertEqual(mill.step(many), "")
            self.assertEqual(all_of(mill), seen[-1])
        for number in range(16, -1, -1):
            mill.back()
            self.assertEqual(all_of(mill), seen[number])
        self.refuses(BadCount, mill.back)
        self.assertEqual(mill.run(), "halt")
        self.assertEqual(all_of(mill), seen[-1])

    def test_counts(self):
        mill = mill_of(*[("rest",)] * 5)
        for count in (0, 1, -1, True, False):
            self.refuses(BadCount, mill.back, count)
        mill.step(3)
        ahead = all_of(mill)
        for count in (0, 4, -1, True, False):
            self.refuses(BadCount, mill.back, count)
        self.assertEqual(all_of(mill), ahead)
        mill.back(count=2)
        self.assertEqual(mill.state()[4:], (1, 1))
        self.refuses(BadCount, mill.back, 2)
        mill.back(1)
        self.refuses(BadCount, mill.back, 1)

    def test_more_than_one_run(self):
        mill = mill_of(("plus", 0, 0, 1), ("jump", "always", 0, False))
        for _ in range(3):
            mill.run(5000)
        self.refuses(BadCount, mill.back, 15001)
        mill.back(14999)
        self.assertEqual(mill.state()[0][0], 1)
        self.assertEqual(mill.state()[4:], (1, 1))

    def test_numbers_given_stay(self):
        mill = mill_of(("ask", 0), ("ask", 1), ("ask", 2), ("say", 2), given=[1])
        self.assertEqual(mill.run(), "asks")
        mill.give(2)
        self.assertEqual(mill.run(), "asks")
        mill.back(2)
        mill.give(3)
        self.assertEqual(mill.run(), "beyond")
        self.assertEqual(mill.state()[0][:3], (1, 2, 3))
        self.assertEqual(mill.said(), [3])

    def test_stops_stay(self):
        mill = mill_of(*[("rest",)] * 4)
        mill.step(2)
        mill.stop_at(1)
        mill.back(2)
        self.assertEqual(mill.run(), "mark")
        self.assertEqual(mill.state()[4], 1)
        mill.stop_at(1, False)
        mill.back()
        self.assertEqual(mill.run(), "beyond")

    def test_said_goes_back(self):
        mill = done(("set", 0, 1), ("say", 0), ("set", 0, 2), ("say", 0))
        told = mill.said()
        mill.back()
        self.assertEqual(mill.said(), [1])
        self.assertEqual(told, [1, 2])
        mill.back(3)
        self.assertEqual(mill.said(), [])


class Given(MillTest):
    def test_give(self):
        mill = mill_of(*[("ask", 0), ("say", 0)] * 3)
        for number in (0, 65535):
            self.assertIsNone(mill.give(number))
        mill.give(number=7)
        self.assertEqual(mill.run(), "beyond")
        self.assertEqual(mill.said(), [0, 65535, 7])

    def test_refused(self):
        mill = mill_of(("ask", 0), given=[])
        for number in (-1, 65536, True, False):
            self.assertEqual(self.refuses(BadGiven, mill.give, number).number, 0)
        self.stays(mill, "asks")
        mill.give(1)
        mill.give(2)
        self.assertEqual(self.refuses(BadGiven, mill.give, 65536).number, 2)
        mill.step()
        self.assertEqual(self.refuses(BadGiven, mill.give, 65536).number, 2)

    def test_at_most_a_hundred(self):
        mill = mill_of(("ask", 0), ("say", 0), ("jump", "always", 0, False), given=[0] * 99)
        mill.give(5)
        self.assertEqual(self.refuses(BadGiven, mill.give, 6).number, 100)
        self.assertEqual(self.refuses(BadGiven, mill.give, -1).number, 100)
        self.assertEqual(mill.run(), "asks")
        self.assertEqual(mill.said(), [0] * 99 + [5])
        self.assertEqual(self.refuses(BadGiven, mill.give, 6).number, 100)


class Again(MillTest):
    def test_the_same_is_told(self):
        mill = done(*filled(1, 900), ("push", 1), ("store", 1, 1, 2), ("say", 1))
        self.assertEqual(all_of(mill), all_of(mill))
        image = image_of(("jump", "always", 0, False))
        self.assertEqual(Mill(image).run(9), Mill(image).run(9))


if __name__ == "__main__":
    unittest.main()
