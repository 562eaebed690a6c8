"""Every call held against the document's words, by trying all maps of few points.

Nothing here draws on the package but through its answers: the words are tried out one map at a time.
"""

import itertools
import unittest

from asking import ask_all, call


def all_maps(size):
    return list(itertools.product(range(size), repeat=size))


def one_then_other(a, b):
    return tuple(b[a[j]] for j in range(len(a)))


def times(a, k):
    done = tuple(range(len(a)))
    for each in range(k):
        done = one_then_other(done, a)
    return done


# Of at most four points: a map repeats itself before its 4th time, and comes round in 1, 2, 3 or 4.
FAR_ENOUGH = 13


def first_pairs(size, tried, key):
    """Of each pair (a, b) the first map tried, in order, such that key(x, a) is b."""
    first = {}
    for x in tried:
        for a in all_maps(size):
            first.setdefault((a, key(x, a)), x)
    return first


def answer_or_none(found):
    return [-2] if found is None else [0, *found]


class AllSmallMaps(unittest.TestCase):
    sizes = (1, 2, 3, 4)

    def hold_one(self, name, wanted):
        for size in self.sizes:
            asked = all_maps(size)
            told = ask_all([call(name, a) for a in asked])
            self.assertEqual(len(told), len(asked))
            for a, answer in zip(asked, told):
                self.assertEqual(answer, [0, *wanted(a)], (name, a))

    def hold_two(self, name, wanted_of_size):
        for size in self.sizes:
            wanted = wanted_of_size(size)
            asked = list(itertools.product(all_maps(size), repeat=2))
            told = ask_all([call(name, a, b) for a, b in asked])
            self.assertEqual(len(told), len(asked))
            for pair, answer in zip(asked, told):
                self.assertEqual(answer, answer_or_none(wanted.get(pair)), (name, pair))

    def test_then(self):
        self.hold_two("then", lambda size: {
            (a, b): one_then_other(a, b) for a in all_maps(size) for b in all_maps(size)})

    def test_power(self):
        for size in self.sizes:
            asked = [(k, a) for a in all_maps(size) for k in (0, 1, 2, 3, 4, 5, 11, 12, 29)]
            told = ask_all([call("power", k, a) for k, a in asked])
            for (k, a), answer in zip(asked, told):
                self.assertEqual(answer, [0, *times(a, k)], (k, a))

    def test_ends_are_the_least(self):
        def wanted(a):
            powers = [times(a, k) for k in range(2 * FAR_ENOUGH)]
            i = min(i for i in range(FAR_ENOUGH) if powers[i] in powers[i + 1:])
            p = min(p for p in range(1, FAR_ENOUGH) if powers[i] == powers[i + p])
            return [i, p]
        self.hold_one("ends", wanted)

    def test_rest_is_the_one_power_that_done_twice_is_itself(self):
        def wanted(a):
            powers = {times(a, k) for k in range(1, FAR_ENOUGH)}
            still = [x for x in powers if one_then_other(x, x) == x]
            self.assertEqual(len(still), 1)
            return still[0]
        self.hold_one("rest", wanted)

    def test_image(self):
        self.hold_one("image", lambda a: [q for q in range(len(a)) if any(a[j] == q for j in range(len(a)))])

    def test_kernel(self):
        self.hold_one("kernel", lambda a: [
            min(i for i in range(len(a)) if a[i] == a[j]) for j in range(len(a))])

    def test_core(self):
        def wanted(a):
            powers = [times(a, k) for k in range(1, FAR_ENOUGH)]
            return [j for j in range(len(a)) if any(power[j] == j for power in powers)]
        self.hold_one("core", wanted)

    def test_steps(self):
        def wanted(a):
            powers = [times(a, k) for k in range(FAR_ENOUGH)]
            back = [j for j in range(len(a)) if any(power[j] == j for power in powers[1:])]
            return [min(k for k in range(FAR_ENOUGH) if powers[k][j] in back) for j in range(len(a))]
        self.hold_one("steps", wanted)

    def test_undo_is_the_first_in_order(self):
        def wanted(a):
            return next(b for b in all_maps(len(a)) if one_then_other(one_then_other(a, b), a) == a)
        self.hold_one("undo", wanted)

    def test_before_is_the_first_in_order_or_there_is_none(self):
        self.hold_two("before", lambda size: first_pairs(size, all_maps(size), lambda x, a: one_then_other(x, a)))

    def test_behind_is_the_first_in_order_or_there_is_none(self):
        self.hold_two("behind", lambda size: first_pairs(size, all_maps(size), lambda x, a: one_then_other(a, x)))

    def test_alike_is_the_first_in_order_or_there_is_none(self):
        def wanted_of_size(size):
            first = {}
            for p in all_maps(size):
                if len(set(p)) < size:
                    continue
                for a, b in itertools.product(all_maps(size), repeat=2):
                    if one_then_other(p, b) == one_then_other(a, p):
                        first.setdefault((a, b), p)
            return first
        self.hold_two("alike", wanted_of_size)


class MoreThanFewPoints(unittest.TestCase):
    """Alike beyond four points: every map of five against some, and maps of six with all ways to place them."""

    def first_alike(self, a, b):
        for p in itertools.permutations(range(len(a))):
            if all(b[p[j]] == p[a[j]] for j in range(len(a))):
                return p
        return None

    def hold(self, pairs):
        told = ask_all([call("alike", a, b) for a, b in pairs])
        self.assertEqual(len(told), len(pairs))
        for (a, b), answer in zip(pairs, told):
            self.assertEqual(answer, answer_or_none(self.first_alike(a, b)), (a, b))

    def test_all_of_five_points_against_some(self):
        some = [(0, 0, 1, 1, 2), (1, 0, 1, 0, 4), (4, 4, 3, 2, 4), (1, 2, 0, 4, 3), (2, 2, 2, 3, 3)]
        self.hold([(a, b) for a in all_maps(5) for b in some])
        self.hold([(b, a) for a in all_maps(5) for b in some])

    def test_six_points_moved_about(self):
        shapes = [
            (0, 0, 0, 1, 1, 2), (1, 2, 0, 4, 5, 3), (1, 2, 3, 4, 5, 0), (1, 0, 3, 2, 5, 4), (1, 0, 0, 0, 1, 1),
            (0, 0, 1, 2, 3, 3), (0, 0, 0, 3, 3, 3), (0, 0, 1, 3, 3, 4), (1, 2, 0, 0, 1, 2), (1, 2, 0, 0, 0, 2)]
        moves = list(itertools.permutations(range(6)))[::37]
        pairs = []
        for a in shapes:
            for p in moves:
                back = [p.index(j) for j in range(6)]
                pairs.append((a, tuple(p[a[back[j]]] for j in range(6))))
        self.hold(pairs)
        self.hold(list(itertools.product(shapes, repeat=2)))


if __name__ == "__main__":
    unittest.main()
