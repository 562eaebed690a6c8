"""Whole lists of calls: long ones, empty ones, and that nothing is changed, kept, printed or nested."""

import contextlib
import io
import sys
import time
import unittest

from asking import (
    HIGHEST, JUST_OVER_100, NEAR_100, OF_ONE, OF_TWO, apart, ask_all, ask_made, call, line, mixed_map, numbers_from)
from foldmaps.maps import UnknownCall, answers


class Unchanging(list):
    """A list that tells when somebody changes it, be it for a while only."""

    def refuse(self, *given, **named):
        raise AssertionError("what was handed in was changed")

    append = extend = insert = pop = remove = clear = sort = reverse = refuse
    __setitem__ = __delitem__ = __iadd__ = __imul__ = refuse


def mixed_move(mixed, size=10):
    left = list(range(size))
    return [left.pop(next(mixed) % len(left)) for each in range(size)]


def moved(a, p):
    """The map b such that p then b is a then p."""
    b = [0] * len(a)
    for j in range(len(a)):
        b[p[j]] = p[a[j]]
    return b


def tried_alike(a, b):
    """The first way to place a on b, by going through the ways in order and turning back where one goes wrong."""
    size = len(a)
    p = []

    def right_so_far():
        return all(b[p[j]] == p[a[j]] for j in range(len(p)) if a[j] < len(p))

    def go_on():
        if len(p) == size:
            return True
        for q in range(size):
            if q not in p:
                p.append(q)
                if right_so_far() and go_on():
                    return True
                p.pop()
        return False

    return [0, *p] if go_on() else [-2]


# Pairs of ten points that look much the same for long: as many points fall together, as many come back.
NEAR_PAIRS = (
    ([1, 2, 3, 4, 0, 6, 7, 8, 9, 5], [1, 2, 3, 4, 5, 6, 7, 8, 9, 0]),
    ([1, 2, 0, 4, 5, 3, 7, 8, 6, 9], [1, 2, 3, 4, 5, 0, 7, 8, 6, 9]),
    ([1, 0, 3, 2, 5, 4, 7, 6, 9, 8], [1, 0, 3, 2, 5, 4, 7, 8, 9, 6]),
    ([0, 0, 0, 1, 1, 1, 2, 2, 2, 2], [0, 0, 0, 1, 1, 1, 1, 2, 2, 2]),
    ([0, 0, 0, 1, 1, 2, 2, 3, 4, 5], [0, 0, 0, 1, 1, 2, 2, 3, 3, 4]),
    ([0, 0, 0, 1, 1, 2, 3, 3, 4, 5], [0, 0, 0, 1, 1, 2, 3, 4, 4, 5]),
    ([0, 0, 0, 1, 1, 2, 3, 4, 5, 5], [0, 0, 0, 1, 1, 2, 3, 3, 4, 5]),
    ([1, 2, 3, 4, 0, 0, 1, 2, 3, 4], [1, 2, 3, 4, 0, 0, 0, 2, 3, 4]),
    ([1, 2, 3, 0, 0, 0, 1, 4, 2, 3], [1, 2, 3, 0, 0, 0, 2, 4, 1, 3]),
    ([1, 2, 3, 4, 5, 0, 0, 1, 3, 4], [1, 2, 3, 4, 5, 0, 0, 2, 3, 5]),
    ([0, 1, 0, 0, 0, 0, 1, 1, 1, 1], [0, 1, 0, 0, 0, 1, 1, 1, 1, 1]),
    ([0] * 9 + [1], [0] * 9 + [8]),
    ([0] * 10, [9] * 10),
    (list(range(10)), list(range(10))),
)


def map_row():
    """400 calls of maps of ten points: every call, and alike with and without an answer."""
    mixed = numbers_from(7)
    calls = []
    while len(calls) < 360:
        a = mixed_map(mixed)
        b = mixed_map(mixed)
        calls += [call(name, a) for name in OF_ONE] + [call(name, a, b) for name in OF_TWO]
        calls += [call("alike", a, moved(a, mixed_move(mixed))), call("power", next(mixed) % 2 ** 32, a)]
    for a, b in NEAR_PAIRS:
        calls += [call("alike", a, b), call("alike", b, a), call("alike", a, moved(a, mixed_move(mixed)))]
    return calls[:400]


def make_row():
    """400 calls: makes of near 100 elements and of just more, each with a question that needs all products."""
    calls = []
    while len(calls) < 400:
        for size, generators in NEAR_100:
            calls += [call("make", *generators), call("kind")]
        for size, generators in JUST_OVER_100:
            calls += [call("make", *generators), call("classes", 2)]
    return calls[:400]


def question_row(generators):
    """A make of 100 elements and 399 calls of class_of, classes, above and kind."""
    calls = [call("make", *generators)]
    for i in range(100):
        calls += [
            call("class_of", i % 4, i), call("classes", i % 4), call("above", i % 3, 99 - i, i), call("kind")]
    return calls[:400]


def mixed_row():
    """400 calls of every sort: maps, makes and questions, and those that are refused."""
    mixed = numbers_from(3)
    calls = []
    while len(calls) < 400:
        size, generators = NEAR_100[next(mixed) % len(NEAR_100)]
        i = next(mixed) % 110
        j = next(mixed) % 110
        a = mixed_map(mixed, 3)
        calls += [
            call("nth", i), call("word", j), call("product", i, j), call("class_of", i % 5, j), call("then", a, a),
            call("make", *generators) if i % 3 else call("make", a, [1, 2, 0]), call("classes", j % 5),
            call("place", a), call("above", i % 4, i, j), call("kind"), call("undoes", i, j // 4),
            call("least", i % 6), call("rest", a), call("place", generators[0]), call("make", a, [0])]
    return calls[:400]


def long_rows():
    return [map_row(), make_row(), question_row(NEAR_100[5][1]), question_row(NEAR_100[7][1]), mixed_row()]


# Far more than it takes: what is bounded is how a user would fare, not this machine.
BEARABLE = 10


class Lines(unittest.TestCase):
    def test_empty(self):
        self.assertEqual(answers([]), [])

    def test_several_calls(self):
        asked = line(
            call("image", [1, 1]), call("ends", [1, 1, 1, 1]), call("then", [0, 1], [0]), call("steps", [1, 2, 2]),
            call("before", [0, 0], [1, 1]), call("power", 0, [1, 1]), call("image", [HIGHEST]), call("core", [1, 0]))
        self.assertEqual(answers(asked), [
            2, 0, 1, 3, 0, 1, 1, 1, -1, 4, 0, 2, 1, 0, 1, -2, 3, 0, 0, 1, 1, -1, 3, 0, 0, 1])

    def test_the_longest_of_maps(self):
        calls = map_row()
        self.assertEqual(len(calls), 400)
        told = apart(answers(line(*calls)))
        self.assertEqual(len(told), 400)
        self.assertEqual(told, [ask_alone(one) for one in calls])
        alikes = [answer for one, answer in zip(calls, told) if one[0] == 12]
        self.assertIn([-2], alikes)
        self.assertTrue(any(len(answer) == 11 for answer in alikes))

    def test_the_longest_of_makes(self):
        in_turn = []
        for size, generators in NEAR_100:
            in_turn += [[0, size], *ask_made(generators, [call("kind")])]
        # What is refused leaves the last good one, which is told of then.
        staying = ask_made(NEAR_100[-1][1], [call("classes", 2)])
        for size, generators in JUST_OVER_100:
            in_turn += [[-3], *staying]
        self.assertEqual(ask_all(make_row()), (in_turn * 400)[:400])

    def test_the_longest_of_questions(self):
        for generators in (NEAR_100[5][1], NEAR_100[7][1]):
            calls = question_row(generators)
            self.assertEqual(len(calls), 400)
            told = ask_all(calls)
            self.assertEqual(told[0], [0, 100])
            for place in range(1, 400, 13):
                self.assertEqual([told[place]], ask_made(generators, [calls[place]]))

    def test_the_longest_are_soon_answered(self):
        for calls in long_rows():
            asked = line(*calls)
            self.assertEqual(len(calls), 400)
            self.assertLessEqual(len(asked), 16000)
            before = time.process_time()
            answers(asked)
            self.assertLess(time.process_time() - before, BEARABLE)

    def test_the_widest(self):
        asked = line(*[call("alike", [HIGHEST] * 12, [HIGHEST] * 12)] * 400)
        self.assertEqual(answers(asked), [1, -1] * 400)

    def test_400_times_each_near_pair(self):
        for a, b in NEAR_PAIRS:
            asked = line(*[call("alike", a, b)] * 400)
            self.assertEqual(answers(asked), answers(call("alike", a, b)) * 400)


def ask_alone(one):
    return apart(answers(one))[0]


class AlikeOfTenPoints(unittest.TestCase):
    def hold(self, pairs):
        told = ask_all([call("alike", a, b) for a, b in pairs])
        self.assertEqual(len(told), len(pairs))
        for (a, b), answer in zip(pairs, told):
            self.assertEqual(answer, tried_alike(a, b), (a, b))

    def test_near_pairs(self):
        self.hold([pair for a, b in NEAR_PAIRS for pair in ((a, b), (b, a), (a, a), (b, b))])

    def test_near_pairs_moved_about(self):
        mixed = numbers_from(11)
        self.hold([
            (moved(a, mixed_move(mixed)), moved(b, mixed_move(mixed)))
            for pair in NEAR_PAIRS for a in pair for b in pair for each in range(3)])

    def test_mixed_maps_moved_about(self):
        mixed = numbers_from(5)
        pairs = []
        for each in range(300):
            size = 5 + each % 6
            a = mixed_map(mixed, size)
            pairs.append((a, moved(a, mixed_move(mixed, size))))
        self.hold(pairs)


class NothingChangedOrKept(unittest.TestCase):
    def test_what_is_handed_in_stays(self):
        for calls in long_rows():
            asked = line(*calls)
            kept = list(asked)
            answers(asked)
            self.assertEqual(asked, kept)

    def test_it_is_not_changed_for_a_while_either(self):
        for calls in long_rows():
            asked = line(*calls)
            self.assertEqual(answers(Unchanging(asked)), answers(asked))

    def test_the_same_list_twice(self):
        for calls in long_rows():
            asked = line(*calls)
            first = answers(asked)
            answers(line(call("ends", [1, 2, 3, 3]), call("make", [1, 0], [0, 0]), call("kind")))
            answers(line(call("ends", []), call("make", [])))
            self.assertEqual(answers(asked), first)

    def test_changing_an_answer_changes_no_later_one(self):
        asked = line(
            call("rest", [0, 1]), call("power", 1, [1, 1]), call("then", [0, 1], [1, 0]), call("make", [1, 0]),
            call("nth", 0), call("word", 0), call("classes", 0), call("nth", 0), call("word", 0), call("classes", 0))
        kept = list(asked)
        first = answers(asked)
        wanted = list(first)
        first[:] = [99] * len(first)
        self.assertEqual(answers(asked), wanted)
        self.assertEqual(asked, kept)

    def test_the_answer_hangs_on_the_maps_alone(self):
        calls = map_row()
        forth = ask_all(calls)
        back = ask_all(calls[::-1])
        self.assertEqual(forth, back[::-1])

    def test_whole_numbers_in_a_list(self):
        for calls in long_rows():
            told = answers(line(*calls))
            self.assertIs(type(told), list)
            self.assertEqual({type(number) for number in told}, {int})


class NothingElseDone(unittest.TestCase):
    def test_nothing_is_printed(self):
        out = io.StringIO()
        err = io.StringIO()
        with contextlib.redirect_stdout(out), contextlib.redirect_stderr(err):
            for calls in long_rows():
                answers(line(*calls))
        self.assertEqual(out.getvalue() + err.getvalue(), "")

    def test_nothing_is_nested_deep(self):
        rows = [line(*calls) for calls in long_rows()]
        wanted = [answers(asked) for asked in rows]
        depth = 0
        frame = sys._getframe()
        while frame is not None:
            depth += 1
            frame = frame.f_back
        limit = sys.getrecursionlimit()
        sys.setrecursionlimit(depth + 60)
        try:
            told = [answers(asked) for asked in rows]
        finally:
            sys.setrecursionlimit(limit)
        self.assertEqual(told, wanted)

    def test_no_call_of_another_number_is_answered(self):
        for number in (0, 24, HIGHEST):
            with self.assertRaises(UnknownCall):
                answers([number, 0, 1, 1, 0])


if __name__ == "__main__":
    unittest.main()
