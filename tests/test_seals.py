import random
import unittest

from bitmill.errors import BadImage, NoMend
from bitmill.seals import mended, sealed


def odd(word):
    return f"{word:b}".count("1") % 2


def turned(block, number, bit):
    """A block with one bit turned."""
    other = list(block)
    other[number] ^= 1 << bit
    return tuple(other)


class Sealed(unittest.TestCase):
    def test_blocks(self):
        self.assertEqual(sealed(()), [])
        self.assertEqual(sealed([0]), [(0, 0, 0)])
        # 7 has three bits, 6 two, both together an odd count of the lowest bit alone.
        self.assertEqual(sealed([7]), [(7, 7, 0b0100000000000001)])
        self.assertEqual(sealed([7, 6]), [(7, 6, 1, 0b0100000000000001)])
        self.assertEqual(sealed((1, 3, 0x8000)), [(1, 3, 0x8000, 0x8002, 0b0000000000000101)])
        self.assertEqual(sealed([65535] * 14), [(65535,) * 14 + (0, 0)])
        self.assertEqual(sealed([32767] * 13), [(32767,) * 13 + (32767, 0b0101111111111111)])

    def test_fourteen_words_each(self):
        image = list(range(200))
        for many in [1, 13, 14, 15, 27, 28, 29, 196, 200]:
            blocks = sealed(image[:many])
            self.assertEqual([len(block) for block in blocks[:-1]], [16] * ((many - 1) // 14))
            self.assertEqual(len(blocks[-1]), (many - 1) % 14 + 3)
            self.assertEqual([word for block in blocks for word in block[:-2]], image[:many])

    def test_columns_and_marks(self):
        chance = random.Random(5)
        for many in range(1, 15):
            words = [chance.randrange(65536) for _ in range(many)]
            block = sealed(words)[0]
            columns, marks = block[-2:]
            for bit in range(16):
                self.assertEqual(sum([word >> bit & 1 for word in words + [columns]]) % 2, 0)
            wanted = [odd(word) for word in words] + [0] * (14 - many) + [odd(columns), 0]
            self.assertEqual([marks >> bit & 1 for bit in range(16)], wanted)

    def test_no_images(self):
        for image, number in [([65536], 0), ([0, -1], 1), ((0,) * 201, 200), ([0] * 200 + ["a"], 200), ([0, True], 1)]:
            with self.assertRaises(BadImage) as caught:
                sealed(image)
            self.assertEqual(caught.exception.number, number)

    def test_what_is_told_may_be_changed(self):
        told = sealed([1, 2])
        told.clear()
        self.assertEqual(len(sealed([1, 2])), 1)


class Mended(unittest.TestCase):
    def some_blocks(self):
        chance = random.Random(8)
        found = []
        for many in [1, 2, 3, 7, 13, 14]:
            for words in [[0] * many, [65535] * many, [chance.randrange(65536) for _ in range(many)]]:
                found.extend(sealed(words))
        return found

    def test_no_turned_bit(self):
        for block in self.some_blocks():
            self.assertEqual(mended(block), (block[:-2], None))
            self.assertEqual(mended(list(block)), (block[:-2], None))

    def test_any_one_turned_bit(self):
        for block in self.some_blocks():
            for number in range(len(block)):
                for bit in range(16):
                    told = mended(turned(block, number, bit))
                    self.assertEqual(told, (block[:-2], (number, bit)))

    def test_any_two_turned_bits(self):
        for block in self.some_blocks():
            if len(block) in (3, 4, 9, 16):
                self.check_two(block)

    def check_two(self, block):
        places = [(number, bit) for number in range(len(block)) for bit in range(16)]
        for at, (number, bit) in enumerate(places):
            once = turned(block, number, bit)
            for other, other_bit in places[:at]:
                with self.assertRaises(NoMend):
                    mended(turned(once, other, other_bit))

    def test_others(self):
        # The columns tell of one bit, but the marks of a word that the block doesn't have, or of several.
        for block in [(1, 0, 3), (1, 0, 0x2001), (1, 0, 0x8001), (1, 0, 0, 5), (0, 0, 3), (3, 0, 0), (1, 1, 0),
                      (0, 0, 0xffff), (5, 0, 1)]:
            with self.assertRaises(NoMend):
                mended(block)

    def test_no_blocks(self):
        for block, number in [([], 0), ((), 0), ([0], 1), ([0, 0], 2), ([0] * 17, 16), ([0] * 16 + ["a"], 16),
                              ([0] * 15 + ["a", 0], 15), ([0, 65536], 1), (["a"], 0), ([0, 0, -1], 2), ([None], 0),
                              ([0, 0, True], 2), ([0] * 30, 16)]:
            with self.assertRaises(BadImage) as caught:
                mended(block)
            self.assertEqual(caught.exception.number, number)

    def test_kinds(self):
        words, bit = mended([1, 1, 0xc001])
        self.assertIsInstance(words, tuple)
        self.assertIsInstance(bit, tuple)


if __name__ == "__main__":
    unittest.main()
