"""What a mill's deeds reckon: words, carries and times."""


def reckoned(name, a, b):
    """The word that comes of a deed of two words, and its carry."""
    often = b & 15
    match name:
        case "add":
            return cut(a + b)
        case "less":
            return cut(a - b)
        case "left":
            return cut(a << often)
        case "right":
            came = a >> often
            return came, (came << often) != a
        case "turn":
            moved = a << often
            return (moved & 65535) | (moved >> 16), False
        case "and":
            return a & b, False
        case "or":
            return a | b, False
        case _:
            return a ^ b, False


def cut(number):
    """The rest of a number by 65536, and whether that is another number."""
    came = number % 65536
    return came, came != number


def is_time(when, flags):
    """Whether a jump with this time goes to its goal."""
    zero, carry, minus = flags
    match when:
        case "always":
            return True
        case "zero":
            return zero
        case "some":
            return not zero
        case "carry":
            return carry
        case "clear":
            return not carry
        case "minus":
            return minus
        case _:
            return not minus
