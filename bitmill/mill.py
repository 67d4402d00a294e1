"""A mill, which does an image's deeds one by one, and takes them back."""

from bitmill.deeds import deed_at
from bitmill.errors import BadCount, BadGiven
from bitmill.reckoning import is_time, reckoned
from bitmill.words import checked_image, first_wrong, is_number, is_word

GIVEN_MOST = 100
COUNT_MOST = 5000
PILED_MOST = 16
CELLS = 64
REGISTERS = 8


def checked_given(given):
    """The numbers given, as a list that is the mill's own."""
    if given is None:
        return []
    wrong = first_wrong(given, GIVEN_MOST)
    if wrong is not None:
        raise BadGiven(wrong)
    return list(given)


def exchanged(row, number, word):
    """A tuple like another one, but for the word of one number."""
    return row[:number] + (word,) + row[number + 1:]


class Mill:
    """A mill of an image.

    What deeds change are tuples, never changed themselves, so that what was
    ahead of each deed can be kept by keeping them.
    """

    def __init__(self, image, given=None):
        words = checked_image(image)
        self._deeds = [deed_at(words, place) for place in range(len(words))]
        self._given = checked_given(given)
        self._asked = 0
        self._said = []
        self._stops = {}
        self._past = []
        self._registers = (0,) * REGISTERS
        self._cells = (0,) * CELLS
        self._flags = (False, False, False)
        self._pile = ()
        self._calls = ()
        self._place = 0

    def step(self, count=1):
        """Does so many deeds; tells the word of the first that can't be done, or an empty text."""
        return self._go(count, False)

    def run(self, most=1000):
        """As step, but stops with "mark" ahead of later deeds at which it is to stop."""
        return self._go(most, True)

    def back(self, count=1):
        """Takes the last so many deeds back."""
        if not is_number(count, 1, len(self._past)):
            raise BadCount("so many deeds were not done")
        registers, cells, flags, pile, calls, place, asked, many_said = self._past[-count]
        self._registers = registers
        self._cells = cells
        self._flags = flags
        self._pile = pile
        self._calls = calls
        self._place = place
        self._asked = asked
        del self._said[many_said:]
        del self._past[-count:]

    def give(self, number):
        """Gives a number more."""
        many = len(self._given)
        if many == GIVEN_MOST or not is_word(number):
            raise BadGiven(many)
        self._given.append(number)

    def stop_at(self, place, on=True):
        """Has run stop at a place, or not stop there."""
        if not is_word(place):
            raise BadCount("a place at which to stop is a word")
        if on:
            self._stops[place] = True
        elif place in self._stops:
            del self._stops[place]

    def said(self):
        """All that was said, as a list."""
        return list(self._said)

    def memory(self):
        """What the cells hold."""
        return self._cells

    def state(self):
        """Registers, flags, pile, calls, place, and how many deeds were done and not taken back."""
        return self._registers, self._flags, self._pile, self._calls, self._place, len(self._past)

    def _go(self, count, marked):
        if not is_number(count, 1, COUNT_MOST):
            raise BadCount("a count is a number from 1 to 5000")
        for number in range(count):
            if marked and number > 0 and self._place in self._stops:
                return "mark"
            word = self._hindrance()
            if word != "":
                return word
            self._next()
        return ""

    def _hindrance(self):
        """The word of why the next deed can't be done; an empty text if it can."""
        if self._place >= len(self._deeds):
            return "beyond"
        met = self._deeds[self._place]
        if met is None:
            return "none"
        match met[0][0]:
            case "halt":
                return "halt"
            case "ask":
                return "asks" if self._asked == len(self._given) else ""
            case "push":
                return "full" if len(self._pile) == PILED_MOST else ""
            case "call":
                return "full" if len(self._calls) == PILED_MOST else ""
            case "pop":
                return "empty" if self._pile == () else ""
            case "back":
                return "empty" if self._calls == () else ""
            case _:
                return ""

    def _next(self):
        """Does the next deed, which nothing hinders."""
        deed, many = self._deeds[self._place]
        self._past.append((self._registers, self._cells, self._flags, self._pile, self._calls, self._place,
                           self._asked, len(self._said)))
        self._place += many
        match deed[0]:
            case "rest":
                pass
            case "jump" | "call" | "back":
                self._go_on(deed)
            case "say" | "push" | "store":
                self._put(deed)
            case _:
                self._registers = exchanged(self._registers, deed[1], self._got(deed))

    def _go_on(self, deed):
        """Does a deed that tells where to go on; the place is already the one behind it."""
        match deed:
            case ("jump", when, goal, _):
                if is_time(when, self._flags):
                    self._place = goal
            case ("call", goal, _):
                self._calls = self._calls + (self._place,)
                self._place = goal
            case _:
                self._place = self._calls[-1]
                self._calls = self._calls[:-1]

    def _put(self, deed):
        """Does a deed that puts what a word of the registers is elsewhere."""
        word = self._registers[deed[1]]
        match deed:
            case ("say", _):
                self._said.append(word)
            case ("push", _):
                self._pile = self._pile + (word,)
            case (_, _, a, n):
                self._cells = exchanged(self._cells, self._cell(a, n), word)

    def _got(self, deed):
        """The word that the deed's first part gets; does all else that the deed does."""
        match deed:
            case ("ask", _):
                self._asked += 1
                return self._given[self._asked - 1]
            case ("pop", _):
                word = self._pile[-1]
                self._pile = self._pile[:-1]
                return word
            case ("set", _, n):
                return n
            case ("high", d, n):
                return (n << 9) | (self._registers[d] & 511)
            case ("load", _, a, n):
                return self._cells[self._cell(a, n)]
            case ("plus", _, a, n):
                return self._came("add", self._registers[a], n)
            case (name, _, a, b):
                return self._came(name, self._registers[a], self._registers[b])

    def _cell(self, a, n):
        """The number of the cell that a load or store means."""
        return (self._registers[a] + n) % CELLS

    def _came(self, name, a, b):
        """The word that comes of two, the flags telling of it."""
        word, carry = reckoned(name, a, b)
        self._flags = (word == 0, carry, word > 32767)
        return word
