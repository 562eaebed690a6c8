"""All products of a semigroup's elements, by their numbers, and what they tell of one element and another."""

LEFT = 0
RIGHT = 1
BOTH = 2
LEFT_AND_RIGHT = 3


class Table:
    def __init__(self, rows):
        self.rows = rows
        self.columns = [column_of(rows, at) for at in range(len(rows))]
        self.known_below = {}
        self.known_starts = {}

    def below(self, which):
        if which not in self.known_below:
            self.known_below[which] = self.find_below(which)
        return self.known_below[which]

    def find_below(self, which):
        if which == LEFT:
            return with_itself(self.columns)
        if which == RIGHT:
            return with_itself(self.rows)
        lefts = self.below(LEFT)
        rights = self.below(RIGHT)
        if which == BOTH:
            return [below_all(rights, left) for left in lefts]
        return list(zip(lefts, rights))

    def starts(self, which):
        if which not in self.known_starts:
            belows = self.below(which)
            # What is below one that's below y is below y too: so two are below one another just where the same
            # are below the one and the other, and the first with these is the first of the class.
            self.known_starts[which] = [belows.index(one) for one in belows]
        return self.known_starts[which]

    def classes(self, which):
        return sorted(set(self.starts(which)))

    def class_of(self, which, at):
        return self.classes(which).index(self.starts(which)[at])

    def above(self, which, low, high):
        return 1 if low in self.below(which)[high] else 0

    def itself_around_each(self, at):
        return [self.columns[at][product] for product in self.rows[at]]

    def undoers(self, at):
        trips = self.itself_around_each(at)
        found = [other for other in range(len(trips)) if trips[other] == at]
        return [other for other in found if self.rows[self.rows[other][at]][other] == other]

    def undoes(self, at, start):
        found = [other for other in self.undoers(at) if other >= start]
        if len(found) == 0:
            return None
        return [found[0]]


def column_of(rows, at):
    return [row[at] for row in rows]


def with_itself(rows):
    return [sorted(set([at] + rows[at])) for at in range(len(rows))]


def below_all(rights, left):
    found = {}
    for middle in left:
        # Where the middle one is found already, all that's right below it is found too.
        if middle not in found:
            for low in rights[middle]:
                found[low] = True
    return sorted(list(found))
