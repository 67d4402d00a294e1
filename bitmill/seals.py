"""Blocks of words in which a turned bit is mended."""

from bitmill.errors import BadImage, NoMend
from bitmill.words import checked_image, first_wrong

WORDS_MOST = 14
BLOCK_LEAST = 3
BLOCK_MOST = 16
COLUMNS_MARK = 14


def sealed(image):
    """The blocks of an image."""
    words = checked_image(image)
    return [block_of(words[at:at + WORDS_MOST]) for at in range(0, len(words), WORDS_MOST)]


def block_of(words):
    """The block of some words."""
    columns = odd_columns(words)
    return words + (columns, marks_of(words, columns))


def odd_columns(words):
    """The word of the bits of which the words have an odd count, which makes all counts even."""
    columns = 0
    for word in words:
        columns = columns ^ word
    return columns


def marks_of(words, columns):
    """The word that tells which words, and whether the columns, have an odd count of bits that are 1."""
    marks = odd_bits(columns) << COLUMNS_MARK
    for number, word in enumerate(words):
        marks = marks | (odd_bits(word) << number)
    return marks


def odd_bits(word):
    """1 if an odd count of a word's bits are 1, 0 if not."""
    odd = 0
    for bit in range(16):
        odd = odd ^ ((word >> bit) & 1)
    return odd


def mended(block):
    """The words of a block, and the bit of it that was turned, by (word, bit), or None."""
    words, columns, marks = checked_block(block)
    odd = odd_columns(words) ^ columns
    wrong = marks_of(words, columns) ^ marks
    if odd == 0 and wrong == 0:
        return words, None
    if not is_one_bit(wrong) or not (odd == 0 or is_one_bit(odd)):
        raise NoMend("more than one bit was turned")
    many = len(words)
    place = wrong.bit_length() - 1
    if odd == 0:
        return words, (many + 1, place)
    if place == COLUMNS_MARK:
        return words, (many, odd.bit_length() - 1)
    if place >= many:
        raise NoMend("more than one bit was turned")
    right = words[:place] + (words[place] ^ odd,) + words[place + 1:]
    return right, (place, odd.bit_length() - 1)


def checked_block(block):
    """The words of a block, a tuple, its columns and its marks."""
    wrong = first_wrong(block, BLOCK_MOST)
    if wrong is not None:
        raise BadImage(wrong)
    if len(block) < BLOCK_LEAST:
        raise BadImage(len(block))
    return tuple(block[:-2]), block[-2], block[-1]


def is_one_bit(bits):
    """Whether just one bit is 1."""
    return bits > 0 and bits & (bits - 1) == 0
