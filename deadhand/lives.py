"""Words, names, and the book of those who live and have lived."""

from deadhand.errors import Gone, NoPerson, NoText, Taken, TooDeep

LONGEST_WORD = 8
LONGEST_NUMBER = 2
MOST_NUMBERS = 5
# These two stand for something else where a name could stand.
BARRED = ("crown", "kids")


def within(text, low, high):
    """Whether each sign of a text lies between two signs, these included."""
    for sign in text:
        if sign < low or sign > high:
            return False
    return True


def good_word(word):
    """Whether a text is a well written word."""
    return 1 <= len(word) <= LONGEST_WORD and within(word, "a", "z") and word not in BARRED


def want_word(word):
    """Refuse a word that isn't well written."""
    if not good_word(word):
        raise NoText("a word is not well written")


def good_number(text):
    """Whether a text is a well written number of a child."""
    return 1 <= len(text) <= LONGEST_NUMBER and within(text, "0", "9") and text[0] != "0"


def parts(name):
    """The word and the numbers of a name."""
    word, *numbers = name.split(".")
    if not good_word(word) or len(numbers) > MOST_NUMBERS:
        raise NoText("a name is not well written")
    for number in numbers:
        if not good_number(number):
            raise NoText("a number in a name is not well written")
    return [word] + [int(number) for number in numbers]


def shortened(name):
    """A well written name without its last part."""
    return name.rpartition(".")[0]


def parent_of(name):
    """The name of the parent, the empty text for a word alone."""
    parts(name)
    return shortened(name)


class Lives:
    """The book of the people, with their births, deaths and children."""

    def __init__(self):
        """An empty book."""
        self.births = {}
        self.deaths = {}
        self.broods = {}

    def twin(self):
        """A book of its own that is as this one is now."""
        other = Lives()
        other.births = dict(self.births)
        other.deaths = dict(self.deaths)
        other.broods = {name: list(self.broods[name]) for name in self.broods}
        return other

    def enter(self, name, year):
        """Write one who isn't in the book into it."""
        self.births[name] = year
        self.broods[name] = []

    def want_known(self, name):
        """Refuse one who isn't in the book."""
        if not self.known(name):
            raise NoPerson("one is asked for who is not in the book")

    def want_alive(self, name):
        """Refuse one who isn't in the book or is dead."""
        self.want_known(name)
        if not self.alive(name):
            raise Gone("one is asked for who is dead")

    def arrive(self, word, born):
        """One without a parent in the book comes into it."""
        want_word(word)
        if self.known(word):
            raise Taken("somebody has this word already")
        self.enter(word, born)

    def birth(self, name, year):
        """The next child of one is born; its name is told."""
        self.want_alive(name)
        if name.count(".") >= MOST_NUMBERS:
            raise TooDeep("one whose name has all numbers has no children")
        child = f"{name}.{len(self.broods[name]) + 1}"
        self.broods[name].append(child)
        self.enter(child, year)
        return child

    def death(self, name, year):
        """One dies."""
        self.want_alive(name)
        self.deaths[name] = year

    def known(self, name):
        """Whether a text names somebody in the book."""
        return name in self.births

    def alive(self, name):
        """Whether a text names somebody in the book who lives."""
        return name in self.births and name not in self.deaths

    def born_in(self, name):
        """The year of one's birth."""
        self.want_known(name)
        return self.births[name]

    def died_in(self, name):
        """The year of one's death, None for the living."""
        self.want_known(name)
        return self.deaths.get(name)

    def age_in(self, name, year):
        """The age of one in a year, or at the death."""
        self.want_known(name)
        return self.deaths.get(name, year) - self.births[name]

    def children(self, name):
        """The names of one's children, the eldest first."""
        self.want_known(name)
        return list(self.broods[name])

    def names(self):
        """All who are in the book, as they came into it."""
        return list(self.births)

    def living(self):
        """All who live, as they came into the book."""
        return [name for name in self.births if name not in self.deaths]

    def nearest(self, name):
        """The longest beginning of a name that is in the book, or the empty text."""
        parts(name)
        beginning = name
        while beginning and beginning not in self.births:
            beginning = shortened(beginning)
        return beginning

    def never(self, name):
        """Whether one isn't in the book and can never be born."""
        return not self.known(name) and not self.alive(self.nearest(name))
