import itertools
import random
import unittest

from bitmill.deeds import packed
from bitmill.errors import BadImage, BadList, BadReach
from bitmill.joining import assembled
from bitmill.lists import deeds_of, image_of, lean
from bitmill.mill import Mill

PLAIN = [
    ("halt",), ("rest",), ("back",), ("say", 1), ("ask", 2), ("push", 3), ("pop", 4), ("add", 1, 2, 3),
    ("less", 1, 2, 3),
    ("and", 1, 2, 3), ("or", 1, 2, 3), ("xor", 1, 2, 3), ("left", 1, 2, 3), ("right", 1, 2, 3), ("turn", 1, 2, 3),
    ("plus", 1, 2, -32), ("set", 1, 511), ("high", 1, 127), ("load", 1, 2, 63), ("store", 1, 2, 0),
]

TIMES = ["always", "zero", "some", "carry", "clear", "minus", "over"]

NOT_LISTED = [
    (), "halt", 5, None, True, ["halt"], ("halt", 0), ("nop",), (5,), ("say",), ("say", 8), ("say", True),
    ("say", 1, 2),
    ("add", 1, 2), ("plus", 1, 2, 32), ("set", 1, 512), ("jump",), ("jump", "always"), ("jump", 0),
    ("jump", "never", 0),
    ("jump", "always", -1), ("jump", "always", 3), ("jump", "always", 0, False), ("jump", "always", 0, True),
    ("jump", "always", True), ("jump", "always", "a"), ("call",), ("call", -1), ("call", 3), ("call", 0, True),
    ("call", False), ("call", None), ("copy", 1, 2), ("Halt",), (("halt",),), (["jump"], "always", 0), (None,),
]


def goal_of(deed):
    return deed[-1] if deed[0] in ("jump", "call") else None


class DeedsOf(unittest.TestCase):
    def test_plain_deeds(self):
        image = [packed(deed)[0] for deed in PLAIN]
        self.assertEqual(deeds_of(image), PLAIN)
        self.assertEqual(deeds_of(tuple(image)), PLAIN)
        self.assertEqual(deeds_of(()), [])

    def test_goals_are_numbers(self):
        image = assembled("a: jump.far b, zero\nc: call.far d\nb: call c\njump a, over\nd:")
        self.assertEqual(deeds_of(image), [("jump", "zero", 2), ("call", 4), ("call", 1), ("jump", "over", 0)])

    def test_near_and_far_are_the_same(self):
        for near, far in [("jump", "jump.far"), ("call", "call.far")]:
            self.assertEqual(deeds_of(assembled(f"rest\n{near} a\na:")), deeds_of(assembled(f"rest\n{far} a\na:")))

    def test_no_deed(self):
        for image, place in [([0xffff], 0), ([0, 0xffff, 0xfffe], 1), ([0x8000], 0), ([0x8000, 0, 0x0e00], 2),
                             # Later ones that are no deeds come ahead of goals.
                             ([0x9005, 0, 0xffff], 2), ([0x8000, 9, 0xffff], 2), ([0x701e], 0)]:
            self.refused(image, place)

    def test_goals_that_are_no_deeds(self):
        for image, place in [([0x9001], 0), ([0, 0x7001], 1), ([0x8000, 1], 0), ([0x8000, 3], 0), ([0xa000, 65535], 0),
                             ([0x8000, 0, 0x901e], 2), ([0x8000, 2, 0xa000, 5], 2), ([0x9005, 0x9006], 0),
                             ([0xa000, 3, 0xa000, 0], 0)]:
            self.refused(image, place)
        self.assertEqual(deeds_of([0x8000, 2]), [("jump", "always", 1)])

    def test_no_images(self):
        for image, number in [([0, 65536], 1), ([0xffff, "a"], 1), ([0xffff] * 201, 200), ([True], 0)]:
            self.refused(image, number)

    def refused(self, image, number):
        with self.assertRaises(BadImage) as caught:
            deeds_of(image)
        self.assertEqual(caught.exception.number, number)

    def test_what_is_told_may_be_changed(self):
        told = deeds_of([0, 512])
        told.clear()
        self.assertEqual(deeds_of([0, 512]), [("halt",), ("rest",)])


class ImageOf(unittest.TestCase):
    def test_plain_deeds(self):
        image = tuple([packed(deed)[0] for deed in PLAIN])
        self.assertEqual(image_of(PLAIN), image)
        self.assertEqual(image_of(tuple(PLAIN)), image)
        self.assertEqual(image_of([]), ())
        self.assertEqual(image_of([("halt",)] * 200), (0,) * 200)

    def test_goals(self):
        for when in TIMES:
            deeds = [("jump", when, 2), ("call", 0), ("jump", when, 3)]
            self.assertEqual(image_of(deeds), assembled(f"a: jump b, {when}\ncall a\nb: jump c, {when}\nc:"))

    def test_goals_just_reached_and_just_not(self):
        self.assertEqual(image_of([("call", 16)] + [("rest",)] * 15), (0x900f,) + (512,) * 15)
        self.assertEqual(image_of([("call", 17)] + [("rest",)] * 16), (0xa000, 18) + (512,) * 16)
        self.assertEqual(image_of([("rest",)] * 15 + [("jump", "zero", 0)]), (512,) * 15 + (0x7210,))
        self.assertEqual(image_of([("rest",)] * 16 + [("jump", "zero", 0)]), (512,) * 16 + (0x8200, 0))

    def test_one_far_makes_all_far(self):
        deeds = [("call", 16 + number) for number in range(16)] + [("rest",)] * 16
        self.assertEqual(image_of(deeds), (0x900f,) * 16 + (512,) * 16)
        deeds[15] = ("call", 32)
        self.assertEqual(image_of(deeds)[::2][:16], (0xa000,) * 16)
        self.assertEqual(len(image_of(deeds)), 48)

    def test_the_shortest_image(self):
        chance = random.Random(4)
        for _ in range(60):
            many = chance.randrange(20, 40)
            deeds = [("rest",)] * many
            for number in chance.sample(range(many), 8):
                goal = min(max(number + chance.choice([-17, -16, -15, 14, 15, 16, 17]), 0), many)
                deeds[number] = chance.choice([("call", goal), ("jump", "zero", goal)])
            image = image_of(deeds)
            self.assertEqual(deeds_of(image), deeds)
            self.assertEqual(len(image), self.shortest(deeds))

    def shortest(self, deeds):
        going = [number for number, deed in enumerate(deeds) if deed[0] != "rest"]
        for many in range(len(going) + 1):
            for far in itertools.combinations(going, many):
                if self.all_reached(deeds, far):
                    return len(deeds) + many
        return None

    def all_reached(self, deeds, far):
        starts = [0]
        for number in range(len(deeds)):
            starts.append(starts[-1] + (2 if number in far else 1))
        for number, deed in enumerate(deeds):
            if deed[0] != "rest":
                try:
                    packed(deed[:-1] + (starts[deed[-1]], number in far), starts[number])
                except BadReach:
                    return False
        return True

    def test_as_the_text(self):
        chance = random.Random(6)
        for _ in range(50):
            many = chance.randrange(1, 60)
            deeds = [random_deed(chance, many) for _ in range(many)]
            rows = [f"l{number}: " + self.row(deed) for number, deed in enumerate(deeds)] + [f"l{many}:"]
            self.assertEqual(image_of(deeds), assembled("\n".join(rows)))
            self.assertEqual(deeds_of(image_of(deeds)), deeds)

    def row(self, deed):
        if deed[0] == "jump":
            return f"jump l{deed[2]}, {deed[1]}"
        if deed[0] == "call":
            return f"call l{deed[1]}"
        return f".word {packed(deed)[0]}"

    def test_too_many_words(self):
        far = [("call", 100)] + [("rest",)] * 198
        self.assertEqual(len(image_of(far)), 200)
        self.refused(image_of, far + [("rest",)], 200)
        self.refused(image_of, [("jump", "zero", 120)] * 120, 120)
        self.refused(image_of, [("call", 0)] * 150, 150)

    def refused(self, call, deeds, number):
        with self.assertRaises(BadList) as caught:
            call(deeds)
        self.assertEqual(caught.exception.number, number)

    def test_no_lists(self):
        for call in [image_of, lean]:
            for thing in NOT_LISTED:
                with self.subTest(thing, call=call.__name__):
                    self.refused(call, [thing], 0)
                    self.refused(call, (("halt",), thing), 1)
            self.refused(call, [("halt",)] * 201, 200)
            self.refused(call, [("halt",)] * 200 + [()], 200)
            self.refused(call, [("halt",)] * 199 + [(), ()], 199)
            self.refused(call, [("call", 0)] * 250, 200)
            self.refused(call, [("halt",), ("jump", "zero", 3), ()], 2)
            self.refused(call, [("halt",), ("jump", "zero", 4), ()], 1)

    def test_goals_up_to_how_many_there_are(self):
        for call in [image_of, lean]:
            call([("jump", "zero", 1)])
            self.refused(call, [("jump", "zero", 2)], 0)
            call([("call", 3), ("halt",), ("halt",)])
            self.refused(call, [("halt",), ("call", 4), ("halt",)], 1)
        self.assertEqual(image_of([("call", 199)] + [("rest",)] * 198), (0xa000, 200) + (512,) * 198)

    def test_lean_has_no_limit_of_words(self):
        deeds = [("jump", "zero", 150)] * 150
        with self.assertRaises(BadList):
            image_of(deeds)
        self.assertLessEqual(len(lean(deeds)), 150)


def random_deed(chance, many):
    """A deed of a list of so many, often one that goes on elsewhere."""
    kind = chance.randrange(12)
    if kind < 3:
        return ("jump", "always", chance.randrange(many + 1))
    if kind < 5:
        return ("jump", chance.choice(TIMES), chance.randrange(many + 1))
    if kind == 5:
        return ("call", chance.randrange(many + 1))
    if kind == 6:
        return chance.choice([("back",), ("back",), ("halt",)])
    if kind == 7:
        return ("rest",)
    register, other = chance.randrange(3), chance.randrange(3)
    return chance.choice([("say", register), ("ask", register), ("plus", register, register, chance.choice([-1, 1])),
                          ("less", register, other, other), ("set", register, chance.randrange(3)),
                          ("push", register), ("pop", register), ("add", register, other, register)])


class Lean(unittest.TestCase):
    def test_nothing_to_leave_out(self):
        for deeds in [[], [("halt",)], [("say", 1), ("jump", "always", 0)], [("call", 2), ("halt",), ("back",)],
                      [("jump", "always", 0)], [("jump", "zero", 0)]]:
            self.assertEqual(lean(deeds), deeds)

    def test_rests(self):
        self.assertEqual(lean([("rest",)]), [])
        self.assertEqual(lean([("rest",), ("say", 1), ("rest",), ("jump", "zero", 2), ("rest",)]),
                         [("say", 1), ("jump", "zero", 1)])

    def test_what_is_not_come_to(self):
        self.assertEqual(lean([("halt",), ("say", 1)]), [("halt",)])
        self.assertEqual(lean([("back",), ("say", 1)]), [("back",)])
        self.assertEqual(lean([("jump", "always", 0), ("call", 0), ("halt",)]), [("jump", "always", 0)])
        self.assertEqual(lean([("call", 3), ("halt",), ("say", 2), ("back",)]), [("call", 2), ("halt",), ("back",)])
        self.assertEqual(lean([("jump", "always", 2), ("say", 1), ("halt",)]), [("halt",)])

    def test_jumps_to_the_next_deed(self):
        for when in TIMES:
            self.assertEqual(lean([("jump", when, 1), ("halt",)]), [("halt",)])
            self.assertEqual(lean([("say", 1), ("jump", when, 2)]), [("say", 1)])
            self.assertEqual(lean([("jump", when, 2), ("rest",), ("halt",)]), [("halt",)])
        self.assertEqual(lean([("call", 1), ("halt",)]), [("call", 1), ("halt",)])

    def test_goals_at_jumps(self):
        self.assertEqual(lean([("jump", "zero", 3), ("say", 1), ("halt",), ("jump", "always", 1)]),
                         [("say", 1), ("halt",)])
        self.assertEqual(lean([("call", 2), ("halt",), ("jump", "always", 4), ("halt",), ("back",)]),
                         [("call", 2), ("halt",), ("back",)])
        deeds = [("say", 1), ("jump", "zero", 4), ("say", 2), ("jump", "always", 0), ("jump", "always", 5)]
        self.assertEqual(lean(deeds), deeds[:4])

    def test_what_leads_round(self):
        round_about = [("jump", "zero", 2), ("halt",), ("jump", "always", 4), ("halt",), ("jump", "always", 2)]
        found = lean(round_about)
        self.assertLessEqual(len(found), 4)
        self.check_form(round_about, found)
        self.assertEqual(lean([("jump", "always", 1), ("jump", "always", 0)]), [("jump", "always", 0)])

    def test_the_least_and_the_greatest(self):
        self.assertEqual(lean([("halt",)] * 200), [("halt",)])
        self.assertEqual(lean([("say", 1)] * 200), [("say", 1)] * 200)
        self.assertEqual(lean([("jump", "always", 199)] * 199 + [("halt",)]), [("halt",)])
        self.assertEqual(lean([("rest",)] * 200), [])

    def test_all_lists_of_a_few(self):
        pool = [("rest",), ("halt",), ("back",), ("say", 0), ("plus", 0, 0, 1), ("call", 0), ("call", 2), ("call", 3)]
        pool += [("jump", when, goal) for when in ["always", "zero"] for goal in range(4)]
        for deeds in itertools.product(pool, repeat=3):
            self.check(list(deeds), [])

    def test_random_lists(self):
        chance = random.Random(15)
        for _ in range(1500):
            many = chance.randrange(1, 25)
            given = [chance.randrange(4) for _ in range(chance.randrange(4))]
            self.check([random_deed(chance, many) for _ in range(many)], given)

    def test_long_random_lists(self):
        chance = random.Random(16)
        for _ in range(60):
            deeds = [random_deed(chance, 100) for _ in range(100)]
            self.check(deeds, [1, 2, 3])

    def check(self, deeds, given):
        before = list(deeds)
        found = lean(deeds)
        self.assertEqual(deeds, before)
        self.check_form(deeds, found)
        self.check_done(deeds, found, given)

    def check_form(self, deeds, found):
        self.assertLessEqual(len(found), len(deeds))
        self.assertEqual(lean(found), found, deeds)
        image_of(found)
        seen, ahead = {}, [0]
        while ahead:
            number = ahead.pop()
            if number < len(found) and number not in seen:
                seen[number] = True
                deed = found[number]
                if goal_of(deed) is not None:
                    ahead.append(goal_of(deed))
                if deed[0] not in ("halt", "back") and deed[:2] != ("jump", "always"):
                    ahead.append(number + 1)
        self.assertEqual(len(seen), len(found), (deeds, found))
        for number, deed in enumerate(found):
            self.assertNotEqual(deed, ("rest",), deeds)
            if deed[0] == "jump":
                self.assertNotEqual(deed[2], number + 1, (deeds, found))
            self.assertTrue(goal_of(deed) is None or self.may_be_goal(found, goal_of(deed)), (deeds, found))

    def may_be_goal(self, found, goal):
        """Whether a goal is no deed that always jumps, or leads round by such."""
        for jumps in range(len(found) + 1):
            if goal == len(found) or found[goal][:2] != ("jump", "always"):
                return jumps == 0
            goal = found[goal][2]
        return True

    def check_done(self, deeds, found, given):
        mill = Mill(image_of(deeds), given)
        word = mill.run(400)
        if word == "":
            return
        other = Mill(image_of(found), given)
        self.assertEqual(other.run(400), word, (deeds, found))
        self.assertEqual(other.said(), mill.said(), (deeds, found))
        self.assertLessEqual(other.state()[5], mill.state()[5])
        self.assertEqual(other.state()[:3], mill.state()[:3])
        self.assertEqual(other.memory(), mill.memory())

    def test_what_is_told_may_be_changed(self):
        deeds = [("say", 1), ("halt",)]
        told = lean(deeds)
        self.assertIsInstance(told, list)
        told.clear()
        self.assertEqual(deeds, [("say", 1), ("halt",)])
        self.assertEqual(lean(deeds), deeds)


if __name__ == "__main__":
    unittest.main()
