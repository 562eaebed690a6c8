"""Every call on a semigroup held against the document's words: all words are tried, and all products.

Nothing here draws on the package but through its answers.
"""

import itertools
import unittest

from asking import HIGHEST, JUST_OVER_100, NEAR_100, ask_all, ask_made, call, mixed_map, numbers_from

# Where a length has more words than this, only the first word of each map is made longer.
MOST_WORDS = 100000


def maps_of(size):
    return [list(a) for a in itertools.product(range(size), repeat=size)]


def first_of_each_map(row):
    """Of words of one length, in order, those that are the first of their map: longer words need no others."""
    first = {}
    for word, a in row:
        first.setdefault(a, word)
    return [(word, a) for a, word in first.items()]


class Tried:
    """The elements by going through all words in order, until a whole length brings nothing new."""

    def __init__(self, generators):
        self.words = {}
        self.thinned = False
        row = [((), tuple(range(len(generators[0]))))]
        fresh = True
        while fresh:
            row = [
                (word + (letter,), tuple(generator[point] for point in a))
                for word, a in row for letter, generator in enumerate(generators)]
            fresh = False
            for word, a in row:
                if a not in self.words:
                    self.words[a] = word
                    fresh = True
            if len(row) * len(generators) > MOST_WORDS:
                row = first_of_each_map(row)
                self.thinned = True
        self.maps = list(self.words)
        self.everyone = range(len(self.maps))

    def multiply(self):
        numbers = {a: at for at, a in enumerate(self.maps)}
        self.product = [[numbers[tuple(b[point] for point in a)] for b in self.maps] for a in self.maps]
        self.below = {0: set(), 1: set(), 2: set()}
        for y in self.everyone:
            lefts = {y} | {self.product[s][y] for s in self.everyone}
            rights = {y} | {self.product[y][s] for s in self.everyone}
            both = lefts | rights | {self.product[z][s] for z in lefts for s in self.everyone}
            self.below[0] |= {(x, y) for x in lefts}
            self.below[1] |= {(x, y) for x in rights}
            self.below[2] |= {(x, y) for x in both}
        return self

    def in_one_class(self, which, x, y):
        if which == 3:
            return self.in_one_class(0, x, y) and self.in_one_class(1, x, y)
        return (x, y) in self.below[which] and (y, x) in self.below[which]

    def classes(self, which):
        """The classes as lists, in the order of their first elements."""
        found = []
        for x in self.everyone:
            for members in found:
                if self.in_one_class(which, x, members[0]):
                    members.append(x)
                    break
            else:
                found.append([x])
        return found

    def undo_one_another(self, x, y):
        do = self.product
        return do[do[x][y]][x] == x and do[do[y][x]][y] == y

    def kind(self):
        do = self.product
        all_of = self.everyone
        idle = [e for e in all_of if all(do[e][x] == x and do[x][e] == x for x in all_of)]
        said = [
            all(do[x][y] == do[y][x] for x in all_of for y in all_of),
            bool(idle),
            any(all(do[z][x] == z and do[x][z] == z for x in all_of) for z in all_of),
            all(any(do[do[x][y]][x] == x for y in all_of) for x in all_of),
            all(sum(self.undo_one_another(x, y) for y in all_of) == 1 for x in all_of),
            all(do[x][x] == x for x in all_of),
            all(len(members) == 1 for members in self.classes(3)),
            len(self.classes(2)) == 1,
            any(all(any(do[x][y] == e for y in all_of) for x in all_of) for e in idle),
        ]
        return sum(2 ** place for place, holds in enumerate(said) if holds)


def some_generators():
    """Generators of 1 to 6 maps of 1 to 6 points, equal ones among them, of few elements each."""
    mixed = numbers_from(13)
    chosen = [[a] for size in (1, 2, 3) for a in maps_of(size)]
    chosen += [list(pair) for size in (1, 2) for pair in itertools.product(maps_of(size), repeat=2)]
    chosen += [list(three) for three in itertools.product(maps_of(2), repeat=3)]
    chosen += [list(pair) for pair in itertools.product(maps_of(3), repeat=2)][::3]
    for count in range(1, 7):
        for size in range(1, 7):
            generators = [mixed_map(mixed, size) for each in range(count)]
            if size > 3:
                # Folding all but some points to one keeps them few.
                generators = [[point if point < 3 else 0 for point in a] for a in generators]
            chosen += [generators, [generators[0]] * count, generators[:3] + generators[:3]]
    return chosen


def single_maps():
    """Single maps of up to ten points: those that come round latest among them."""
    mixed = numbers_from(17)
    chosen = [[mixed_map(mixed, size)] for size in range(1, 11) for each in range(5)]
    chosen += [[[1, 0, 3, 4, 2, 6, 7, 8, 9, 5]], [[1, 2, 3, 4, 5, 6, 7, 8, 9, 9]], [[1, 2, 0, 4, 5, 6, 3, 3, 7, 8]]]
    return chosen


class AllWordsAndProducts(unittest.TestCase):
    def hold_words(self, generators):
        tried = Tried(generators)
        size = len(tried.maps)
        self.assertEqual(ask_all([call("make", *generators)]), [[0, size]], generators)
        calls = [call("nth", i) for i in range(size)] + [call("word", i) for i in range(size)]
        calls += [call("place", a) for a in tried.maps]
        wanted = [[0, *a] for a in tried.maps] + [[0, *tried.words[a]] for a in tried.maps]
        wanted += [[0, i] for i in range(size)]
        self.assertEqual(ask_made(generators, calls), wanted, generators)
        return tried.thinned

    def hold_products(self, generators, part=1):
        """All questions about one semigroup, of those about two elements each part-th."""
        tried = Tried(generators).multiply()
        size = len(tried.maps)
        pairs = list(itertools.product(range(size), repeat=2))[::part]
        asked = [(call("product", x, y), [0, tried.product[x][y]]) for x, y in pairs]
        for which in (0, 1, 2):
            asked += [
                (call("above", which, x, y), [0, 1 if (x, y) in tried.below[which] else 0]) for x, y in pairs]
        for which in (0, 1, 2, 3):
            classes = tried.classes(which)
            asked.append((call("classes", which), [0, *[members[0] for members in classes]]))
            for number, members in enumerate(classes):
                asked += [(call("class_of", which, x), [0, number]) for x in members]
        asked.append((call("kind"), [0, tried.kind()]))
        for x in range(size):
            undoers = [y for y in range(size) if tried.undo_one_another(x, y)]
            for start in [*range(0, size, part), size - 1, size, size + 1, HIGHEST]:
                later = [y for y in undoers if y >= start]
                asked.append((call("undoes", x, start), [0, later[0]] if later else [-2]))
        for rank in [*range(12), HIGHEST]:
            few = [x for x in range(size) if len(set(tried.maps[x])) <= rank]
            asked.append((call("least", rank), [0, few[0]] if few else [-2]))
        told = ask_made(generators, [one for one, wanted in asked])
        self.assertEqual(len(told), len(asked))
        for (one, wanted), answer in zip(asked, told):
            self.assertEqual(answer, wanted, (generators, one))

    def test_few_elements(self):
        for generators in some_generators() + single_maps():
            self.hold_words(generators)
            self.hold_products(generators)

    def test_near_100_elements(self):
        thinned = [self.hold_words(generators) for size, generators in NEAR_100]
        self.assertIn(False, thinned)
        for size, generators in NEAR_100:
            self.hold_products(generators, part=7)

    def test_100_elements_by_every_pair(self):
        self.hold_products(NEAR_100[5][1])

    def test_just_more_than_100_elements(self):
        for size, generators in JUST_OVER_100:
            self.assertEqual(len(Tried(generators).maps), size)
            self.assertEqual(ask_all([call("make", *generators)]), [[-3]], generators)

    def test_all_maps_of_three_points_placed(self):
        for generators in ([[1, 2, 0], [0, 0, 1]], [[0, 0, 2], [1, 0, 2]], [[0, 1, 1]]):
            tried = Tried(generators)
            calls = [call("place", a) for a in maps_of(3)]
            wanted = [
                [0, tried.maps.index(tuple(a))] if tuple(a) in tried.words else [-2] for a in maps_of(3)]
            self.assertEqual(ask_made(generators, calls), wanted, generators)


class EachBitOfKind(unittest.TestCase):
    # Of each bit a semigroup that has it and one that has it not, where it can be with all other bits the same.
    pairs = {
        1: ([[1, 0, 0, 2]], [[0, 1, 2, 0], [1, 0, 0, 2]]),
        2: ([[0, 0, 1], [1, 0, 2]], [[0, 1, 2, 0], [1, 0, 0, 2]]),
        4: ([[0, 2, 1, 0], [0, 3, 3, 0]], [[0, 1, 2, 0], [1, 0, 0, 2]]),
        8: ([[0, 0, 0, 0], [3, 2, 1, 3]], [[0, 1, 2, 0], [1, 0, 0, 2]]),
        16: ([[0, 0, 1], [0, 2, 0]], [[0, 0, 1], [0, 2, 2]]),
        32: ([[0, 0, 0], [1, 1, 2]], [[0, 0, 0, 2], [1, 1, 3, 1]]),
        64: ([[0, 0, 0], [1, 1, 0]], [[0, 1, 2, 0], [1, 0, 0, 2]]),
        128: ([[0, 0], [1, 1]], [[0, 0, 0], [1, 1, 2]]),
        256: ([[0, 2, 1], [1, 0, 2]], [[0, 1, 2, 0], [1, 0, 3, 2]]),
    }
    wanted = {
        1: (1, 0), 2: (2, 0), 4: (4, 0), 8: (8, 0), 16: (92, 76), 32: (104, 72), 64: (64, 0), 128: (232, 104),
        256: (410, 26)}

    def test_by_itself(self):
        for bit, (having, lacking) in self.pairs.items():
            kinds = [ask_made(generators, [call("kind")])[0][1] for generators in (having, lacking)]
            self.assertEqual((kinds[0] & bit, kinds[1] & bit), (bit, 0), bit)
            self.assertEqual(tuple(kinds), self.wanted[bit], bit)
            self.assertEqual([Tried(one).multiply().kind() for one in (having, lacking)], kinds, bit)

    def test_a_group_needs_more_than_one_that_does_nothing(self):
        # 1 0 has what undoes it and 0 0 has not, be 0 1 there or not.
        self.assertEqual(ask_made([[1, 0]], [call("kind")]), [[0, 411]])
        self.assertEqual(ask_made([[1, 0], [0, 0]], [call("kind")]), [[0, 10]])

    def test_what_does_nothing_may_move_points(self):
        # 0 0 2 moves point 1, but none that 0 0 2 and 2 2 0 go to.
        self.assertEqual(ask_made([[2, 2, 0]], [call("kind"), call("nth", 1)]), [[0, 411], [0, 0, 0, 2]])

    def test_one_element_is_of_all_kinds(self):
        for generators in ([[0]], [[0, 0]], [[0, 1, 2]], [[3, 3, 3, 3]] * 6, [list(range(10))]):
            self.assertEqual(ask_made(generators, [call("kind")]), [[0, 511]])


if __name__ == "__main__":
    unittest.main()
