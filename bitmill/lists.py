"""Images as lists of deeds, whose goals are numbers of deeds, and lean lists."""

from bitmill.deeds import deeds_met, goal_of, is_deed, words_of
from bitmill.errors import BadImage, BadList
from bitmill.leaning import going_to, leaned
from bitmill.reach import starts_of, widened
from bitmill.words import IMAGE_MOST, checked_image

DEEDS_MOST = 200


def deeds_of(image):
    """The deeds of an image, jumps and calls without far, their goals being numbers of deeds."""
    words = checked_image(image)
    met = deeds_met(words)
    for place, deed, many in met:
        if deed is None:
            raise BadImage(place)
    numbers = {place: number for number, (place, deed, many) in enumerate(met)}
    numbers[len(words)] = len(met)
    deeds = []
    for place, deed, many in met:
        goal = goal_of(deed)
        if goal is None:
            deeds.append(deed)
        elif goal in numbers:
            deeds.append(deed[:-2] + (numbers[goal],))
        else:
            raise BadImage(place)
    return deeds


def image_of(deeds):
    """The shortest image of a list of deeds."""
    own = checked_deeds(deeds)
    sizes = widened([1] * len(own), [going_to(deed) for deed in own])
    starts = starts_of(sizes)
    if starts[-1] > IMAGE_MOST:
        raise BadList(len(own))
    image = []
    for number, deed in enumerate(own):
        goal = going_to(deed)
        whole = deed if goal is None else deed[:-1] + (starts[goal], sizes[number] == 2)
        image.extend(words_of(whole, starts[number]))
    return tuple(image)


def lean(deeds):
    """A list of no more deeds that says the same, and comes to the same word, by no more deeds done."""
    return leaned(checked_deeds(deeds))


def checked_deeds(deeds):
    """The deeds of a list, as a list of its own."""
    many = len(deeds)
    for number, thing in enumerate(deeds):
        if number == DEEDS_MOST or not is_listed(thing, many):
            raise BadList(number)
    return list(deeds)


def is_listed(thing, many):
    """Whether a thing is a deed of a list of so many."""
    if not isinstance(thing, tuple):
        return False
    if thing[:1] != ("jump",) and thing[:1] != ("call",):
        return is_deed(thing)
    return is_deed(thing + (True,)) and going_to(thing) <= many
