"""The mill beside a second one, plainly told by bits, over many programs."""

import copy
import random
import unittest

from bitmill.deeds import packed, unpacked
from bitmill.errors import NoDeed
from bitmill.mill import Mill

SUMS = ["add", "less", "and", "or", "xor", "left", "right", "turn"]
TIMES = ["always", "zero", "some", "carry", "clear", "minus", "over"]


class Model:
    """A mill that keeps a whole copy of what it has ahead of each deed."""

    def __init__(self, image, given):
        self.image, self.given, self.stops, self.past = list(image), list(given), set(), []
        self.now = {"reg": [0] * 8, "cells": [0] * 64, "zero": False, "carry": False, "minus": False,
                    "pile": [], "calls": [], "place": 0, "said": [], "asked": 0}

    def all(self):
        now = self.now
        state = (tuple(now["reg"]), (now["zero"], now["carry"], now["minus"]), tuple(now["pile"]),
                 tuple(now["calls"]), now["place"], len(self.past))
        return state, tuple(now["cells"]), now["said"]

    def back(self, many):
        for _ in range(many):
            self.now = self.past.pop()

    def run(self, most, marked=True):
        for number in range(most):
            if marked and number and self.now["place"] in self.stops:
                return "mark"
            then = copy.deepcopy(self.now)
            word = self.do(then)
            if word:
                return word
            self.past.append(self.now)
            self.now = then
        return ""

    def do(self, then):
        if then["place"] >= len(self.image):
            return "beyond"
        try:
            (name, *parts), many = unpacked(self.image, then["place"])
        except NoDeed:
            return "none"
        then["place"] += many
        return (self.do_going(then, name, parts) or self.do_moving(then, name, parts)
                or self.do_sum(then, name, parts))

    def do_going(self, then, name, parts):
        if name == "halt":
            return "halt"
        if name == "jump":
            if {"always": True, "zero": then["zero"], "carry": then["carry"], "minus": then["minus"],
                    "some": not then["zero"], "clear": not then["carry"], "over": not then["minus"]}[parts[0]]:
                then["place"] = parts[1]
        if name == "call":
            if len(then["calls"]) == 16:
                return "full"
            then["calls"].append(then["place"])
            then["place"] = parts[0]
        if name == "back":
            if not then["calls"]:
                return "empty"
            then["place"] = then["calls"].pop()

    def do_moving(self, then, name, parts):
        reg = then["reg"]
        if name == "say":
            then["said"].append(reg[parts[0]])
        if name == "ask":
            if then["asked"] == len(self.given):
                return "asks"
            reg[parts[0]] = self.given[then["asked"]]
            then["asked"] += 1
        if name == "push":
            if len(then["pile"]) == 16:
                return "full"
            then["pile"].append(reg[parts[0]])
        if name == "pop":
            if not then["pile"]:
                return "empty"
            reg[parts[0]] = then["pile"].pop()
        if name == "set":
            reg[parts[0]] = parts[1]
        if name == "high":
            reg[parts[0]] = int(f"{parts[1]:07b}" + f"{reg[parts[0]]:016b}"[7:], 2)
        if name == "load":
            reg[parts[0]] = then["cells"][(reg[parts[1]] + parts[2]) % 64]
        if name == "store":
            then["cells"][(reg[parts[1]] + parts[2]) % 64] = reg[parts[0]]

    def do_sum(self, then, name, parts):
        if name not in SUMS and name != "plus":
            return ""
        a = then["reg"][parts[1]]
        b = parts[2] if name == "plus" else then["reg"][parts[2]]
        carry = False
        if name in ("add", "plus", "less"):
            whole = a - b if name == "less" else a + b
            carry = not 0 <= whole <= 65535
            came = whole % 65536
        elif name in ("and", "or", "xor"):
            signs = {"and": ("11",), "or": ("11", "01", "10"), "xor": ("01", "10")}[name]
            came = int("".join("1" if x + y in signs else "0" for x, y in zip(f"{a:016b}", f"{b:016b}")), 2)
        else:
            bits = f"{a:016b}"
            for _ in range(int(f"{b:016b}"[-4:], 2)):
                if name == "left":
                    carry = carry or bits[0] == "1"
                    bits = bits[1:] + "0"
                elif name == "right":
                    carry = carry or bits[-1] == "1"
                    bits = "0" + bits[:-1]
                else:
                    bits = bits[1:] + bits[0]
            came = int(bits, 2)
        then["reg"][parts[0]] = came
        then["zero"], then["carry"], then["minus"] = came == 0, carry, f"{came:016b}"[0] == "1"
        return ""


def some_deed(chance, most):
    """A deed of any kind, its goal mostly a place below most."""
    a, b, d = (chance.randrange(8) for _ in range(3))
    kind = chance.randrange(12)
    goal = chance.randrange(most)
    far = chance.random() < 0.3
    if kind < 3:
        return chance.choice(SUMS), d, a, b
    return [("plus", d, a, chance.randint(-32, 31)), ("set", d, chance.randrange(512)),
            ("high", d, chance.randrange(128)), ("load", d, a, chance.randrange(64)),
            ("store", d, a, chance.randrange(64)), (chance.choice(["say", "ask", "push", "pop"]), a),
            ("jump", chance.choice(TIMES), goal, far), ("call", goal, far),
            (chance.choice(["back", "rest", "back", "rest", "halt"]),)][kind - 3]


def some_image(chance):
    image = []
    most = chance.choice([5, 15, 40])
    while len(image) < most:
        if chance.random() < 0.01:
            image.append(chance.randrange(65536))
            continue
        deed = some_deed(chance, most)
        if deed[-1] is False and not -16 <= deed[-2] - len(image) - 1 <= 15:
            continue
        image += packed(deed, len(image))
    return image


class Beside(unittest.TestCase):
    def test_many_programs(self):
        words = {}
        for seed in range(400):
            chance = random.Random(seed)
            image = some_image(chance)
            given = [chance.choice([0, 1, 65535, chance.randrange(65536)]) for _ in range(chance.randrange(6))]
            mill, model = Mill(image, given), Model(image, given)
            for _ in range(20):
                word = self.one_call(chance, mill, model)
                words[word] = words.get(word, 0) + 1
                self.assertEqual((mill.state(), mill.memory(), mill.said()), model.all(), seed)
        self.assertEqual(set(words) - {None}, {"", "mark", "beyond", "none", "halt", "asks", "full", "empty"})

    def one_call(self, chance, mill, model):
        kind = chance.randrange(8)
        many = chance.randint(1, 40)
        if kind < 2:
            word = mill.step(many)
            self.assertEqual(word, model.run(many, False))
            return word
        if kind < 5:
            word = mill.run(many)
            self.assertEqual(word, model.run(many))
            return word
        if kind == 5:
            mill.give(many)
            model.given.append(many)
        elif kind == 6:
            on = chance.random() < 0.7
            mill.stop_at(many, on)
            (model.stops.add if on else model.stops.discard)(many)
        elif model.past:
            many = chance.randint(1, len(model.past))
            mill.back(many)
            model.back(many)
        return None


if __name__ == "__main__":
    unittest.main()
