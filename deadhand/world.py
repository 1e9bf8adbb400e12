"""The world: its year, its people, and the happenings that came."""

from deadhand.errors import OutOfBound, Taken
from deadhand.lives import Lives, want_word

LAST_FIRST_YEAR = 9999
MOST_YEARS = 60
OLDEST = 120


def want_between(number, low, high):
    """Refuse a number that is less than low or more than high."""
    if number < low or number > high:
        raise OutOfBound("a number lies outside of its bounds")


class World:
    """A year that grows, the book of the people, and the happenings with their years."""

    def __init__(self, year):
        """A world without anybody."""
        want_between(year, 0, LAST_FIRST_YEAR)
        self.year = year
        self.lives = Lives()
        self.happened = {}

    def twin(self):
        """A world of its own that is as this one is now."""
        # The clock may have gone beyond what a first year can be.
        other = World(0)
        other.year = self.year
        other.lives = self.lives.twin()
        other.happened = dict(self.happened)
        return other

    def pass_years(self, many):
        """So many years pass."""
        want_between(many, 1, MOST_YEARS)
        self.year += many

    def arrive(self, word, age):
        """One who was born so many years ago comes into the book."""
        want_between(age, 0, OLDEST)
        self.lives.arrive(word, self.year - age)

    def birth(self, name):
        """The next child of one is born now; its name is told."""
        return self.lives.birth(name, self.year)

    def death(self, name):
        """One dies now."""
        self.lives.death(name, self.year)

    def comes(self, word):
        """A happening comes."""
        want_word(word)
        if word in self.happened:
            raise Taken("this happening has come already")
        self.happened[word] = self.year

    def came_in(self, word):
        """The year in which a happening came, None where it has not."""
        return self.happened.get(word)

    def age(self, name):
        """The age of one, now or at the death."""
        return self.lives.age_in(name, self.year)
