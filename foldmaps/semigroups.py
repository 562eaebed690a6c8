"""A semigroup of maps, grown from its generators: every map that a word of them has, and the first such word."""

from foldmaps.points import image, stay, then
from foldmaps.tables import Table

MOST_ELEMENTS = 100


class Semigroup:
    def __init__(self, generators):
        self.generators = generators
        self.maps = []
        self.words = []
        self.parents = []
        self.numbers = {}
        self.onward = []
        self.filled = None
        self.numbers_behind(stay(len(generators[0])), [], None)

    def numbers_behind(self, start, word, parent):
        found = []
        for letter in range(len(self.generators)):
            grown = then(start, self.generators[letter])
            found.append(self.number_of(grown, word + [letter], parent))
        return found

    def number_of(self, grown, word, parent):
        key = tuple(grown)
        if key not in self.numbers:
            self.numbers[key] = len(self.maps)
            self.maps.append(grown)
            self.words.append(word)
            self.parents.append(parent)
        return self.numbers[key]

    def grow_behind(self, at):
        self.onward.append(self.numbers_behind(self.maps[at], self.words[at], at))

    def table(self):
        # All products are many, and many a semigroup is asked for none of them: they wait for the first question.
        if self.filled is None:
            self.filled = Table([self.products_of(at) for at in range(len(self.maps))])
        return self.filled

    def products_of(self, at):
        row = []
        # Each element is its parent, which stands ahead of it, then one generator: no map has to be done again.
        for other in range(len(self.maps)):
            parent = self.parents[other]
            reached = at if parent is None else row[parent]
            row.append(self.onward[reached][self.words[other][-1]])
        return row

    def place(self, a):
        if tuple(a) not in self.numbers:
            return None
        return [self.numbers[tuple(a)]]

    def least(self, rank):
        for at in range(len(self.maps)):
            if len(image(self.maps[at])) <= rank:
                return [at]
        return None


def made_of(generators):
    made = Semigroup(generators)
    at = 0
    # An own word without its last number is an own word too. So to grow the elements in turn, by the generators in
    # turn, meets all words that may be own words in their order: the first that has a map is that map's own.
    while at < len(made.maps):
        made.grow_behind(at)
        # Of ten points there may be more than anyone can wait for, so too many are not grown to their end.
        if len(made.maps) > MOST_ELEMENTS:
            return None
        at = at + 1
    return made
