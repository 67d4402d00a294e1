"""Words of sixteen bits, and the rows of them that are handed in."""

from bitmill.errors import BadImage

WORD_MOST = 65535
IMAGE_MOST = 200


def is_number(thing, least, most):
    """Whether a thing is a whole number from least to most."""
    # For Python True and False are whole numbers, here they are none.
    if isinstance(thing, bool) or not isinstance(thing, int):
        return False
    return least <= thing <= most


def is_word(thing):
    """Whether a thing is a word."""
    return is_number(thing, 0, WORD_MOST)


def first_wrong(row, most):
    """The number of the first thing of a row that is no word, or one too many; None if all are right."""
    for number, thing in enumerate(row):
        if number == most or not is_word(thing):
            return number
    return None


def checked_image(image):
    """The words of an image as a tuple, which later changes of what was handed in don't reach."""
    wrong = first_wrong(image, IMAGE_MOST)
    if wrong is not None:
        raise BadImage(wrong)
    return tuple(image)
