"""Semigroups: the edges that the document names, what is refused at them, and what stays behind a refusal."""

import unittest

from asking import HIGHEST, JUST_OVER_100, NEAR_100, ask_all, ask_made, call, line
from foldmaps.maps import answers

FOLDS = [[1, 2, 2], [0, 0, 2]]
# Of ten points: a round, two points changed and two folded together make all 10^10 maps.
ALL_MAPS = [[1, 2, 3, 4, 5, 6, 7, 8, 9, 0], [1, 0, 2, 3, 4, 5, 6, 7, 8, 9], [0, 0, 2, 3, 4, 5, 6, 7, 8, 9]]
JUST_100 = NEAR_100[5][1]

GOOD_QUESTIONS = (
    call("nth", 0), call("place", [1, 2, 2]), call("word", 0), call("product", 0, 0), call("class_of", 0, 0),
    call("classes", 0), call("above", 0, 0, 0), call("kind"), call("undoes", 0, 0), call("least", 10))
WRONG_QUESTIONS = (
    call("nth", HIGHEST), call("place", []), call("place", [1]), call("place", [HIGHEST] * 12),
    call("word", HIGHEST), call("product", HIGHEST, HIGHEST), call("class_of", 4, HIGHEST), call("classes", HIGHEST),
    call("above", 3, HIGHEST, HIGHEST), call("undoes", HIGHEST, HIGHEST))
NONE_THERE = (call("place", [2, 1, 0]), call("undoes", 0, HIGHEST), call("least", 0))
WRONG_MAKES = (
    call("make"), call("make", *[[0]] * 7), call("make", *[[0]] * 8), call("make", []), call("make", [1]),
    call("make", [0, 1], [0]), call("make", [0, 1], [0, 2]), call("make", [0] * 11))
TOO_MANY_MAKES = (call("make", *ALL_MAPS), *[call("make", *generators) for size, generators in JUST_OVER_100])


def questions_of(size):
    """Questions enough to tell one semigroup from another."""
    asked = [call("kind")] + [call("least", rank) for rank in range(11)]
    for i in range(0, size, 7):
        j = size - 1 - i
        asked += [call("nth", i), call("word", i), call("product", i, j), call("undoes", i, 0)]
        asked += [call("class_of", which, i) for which in range(4)]
        asked += [call("above", which, i, j) for which in range(3)]
    return asked + [call("classes", which) for which in range(4)]


class Make(unittest.TestCase):
    def test_one_to_six_maps(self):
        for count in range(1, 7):
            self.assertEqual(answers(call("make", *[[0, 0]] * count)), [2, 0, 1])
            self.assertEqual(answers(call("make", *[[1, 0]] * count)), [2, 0, 2])
        folds = [[0 if j == i else j for j in range(7)] for i in range(1, 7)]
        for count in range(1, 7):
            self.assertEqual(answers(call("make", *folds[:count])), [2, 0, 2 ** count - 1])

    def test_one_to_ten_points(self):
        for size in range(1, 11):
            around = [*range(1, size), 0]
            self.assertEqual(answers(call("make", around)), [2, 0, size])
            self.assertEqual(answers(call("make", list(range(size)))), [2, 0, 1])
            self.assertEqual(answers(call("make", *[[j] * size for j in range(min(size, 6))])), [2, 0, min(size, 6)])

    def test_equal_generators_have_the_lesser_number_in_words(self):
        asked = [call("nth", 0), call("word", 0), call("nth", 1), call("word", 1), call("word", 2)]
        self.assertEqual(
            ask_made([[1, 0], [1, 0], [0, 0], [1, 0]], asked), [[0, 1, 0], [0, 0], [0, 0, 0], [0, 2], [0, 0, 0]])

    def test_the_generators_order_counts(self):
        asked = [call("nth", i) for i in range(4)]
        self.assertEqual(ask_made([[1, 0], [0, 0]], asked), [[0, 1, 0], [0, 0, 0], [0, 0, 1], [0, 1, 1]])
        self.assertEqual(ask_made([[0, 0], [1, 0]], asked), [[0, 0, 0], [0, 1, 0], [0, 1, 1], [0, 0, 1]])

    def test_other_than_one_to_six(self):
        for row in ([0], [0, 1], list(range(10)), [], [0] * 12, [HIGHEST]):
            self.assertEqual(answers(call("make", *[row] * 7)), [1, -1])
            self.assertEqual(answers(call("make", *[row] * 8)), [1, -1])
        self.assertEqual(answers([13, 0, 0]), [1, -1])
        self.assertEqual(answers(call("make", *ALL_MAPS, *ALL_MAPS, ALL_MAPS[0])), [1, -1])

    def test_a_list_that_is_no_map_among_them(self):
        no_maps = ([], [0] * 11, [0] * 12, [1], [HIGHEST], [0, 2], [2, 0], [0, 1, 3], [0] * 9 + [10])
        for row in no_maps:
            fitting = [0] * max(1, min(len(row), 10))
            for count in range(6):
                for place in range(count + 1):
                    rows = [fitting] * place + [row] + [fitting] * (count - place)
                    self.assertEqual(answers(call("make", *rows)), [1, -1], rows)
        # A list that's no map is told first, however many elements the others make.
        self.assertEqual(answers(call("make", *ALL_MAPS, [0] * 9 + [10])), [1, -1])
        self.assertEqual(answers(call("make", *ALL_MAPS, [0] * 9)), [1, -1])

    def test_not_as_many_points(self):
        for size in range(1, 11):
            for other in range(1, 11):
                if size != other:
                    self.assertEqual(answers(call("make", [0] * size, [0] * other)), [1, -1])
                    for place in range(6):
                        rows = [[0] * size] * 6
                        rows[place] = [0] * other
                        self.assertEqual(answers(call("make", *rows)), [1, -1], rows)

    def test_100_elements_and_more(self):
        for size, generators in NEAR_100:
            self.assertEqual(answers(call("make", *generators)), [2, 0, size], generators)
        for size, generators in JUST_OVER_100:
            self.assertEqual(answers(call("make", *generators)), [1, -3], generators)
        self.assertEqual(answers(call("make", *ALL_MAPS)), [1, -3])
        self.assertEqual(answers(call("make", *ALL_MAPS, *ALL_MAPS)), [1, -3])


class Numbers(unittest.TestCase):
    """The last element, one past it, and the highest number."""

    def refuse(self, generators, asked):
        self.assertEqual(ask_made(generators, asked), [[-1]] * len(asked))

    def each(self):
        return [(1, [[0]]), (5, FOLDS), (100, JUST_100), NEAR_100[0]]

    def test_the_last_element(self):
        told = ask_made(FOLDS, [call("nth", 4), call("word", 4), call("product", 4, 4), call("undoes", 4, 4)])
        self.assertEqual(told, [[0, 1, 1, 2], [0, 1, 0], [0, 4], [0, 4]])
        for size, generators in self.each():
            last = size - 1
            asked = [call("nth", last), call("word", last), call("product", last, last), call("undoes", last, 0)]
            asked += [call("class_of", which, last) for which in range(4)]
            asked += [call("above", which, last, last) for which in range(3)]
            for one, answer in zip(asked, ask_made(generators, asked)):
                self.assertNotEqual(answer, [-1], one)

    def test_none_past_it(self):
        for size, generators in self.each():
            last = size - 1
            for past in (size, size + 1, 100, 2 ** 32, 2 ** 63, HIGHEST):
                if past < size:
                    continue
                asked = [call("nth", past), call("word", past)]
                for good in (0, last):
                    asked += [call("product", past, good), call("product", good, past), call("undoes", past, good)]
                    asked += [call("above", which, past, good) for which in range(3)]
                    asked += [call("above", which, good, past) for which in range(3)]
                asked += [call("product", past, past), call("undoes", past, past)]
                asked += [call("class_of", which, past) for which in range(5)]
                asked += [call("above", which, past, past) for which in range(4)]
                self.refuse(generators, asked)

    def test_which(self):
        for size, generators in self.each():
            for which in (0, 1, 2, 3):
                told = ask_made(generators, [call("class_of", which, 0), call("classes", which)])
                self.assertEqual(told[0], [0, 0])
                self.assertEqual(told[1][:2], [0, 0])
            for which in (0, 1, 2):
                self.assertEqual(ask_made(generators, [call("above", which, 0, 0)]), [[0, 1]])
            self.refuse(generators, [call("above", 3, 0, 0)])
            for which in (4, 5, 2 ** 32, HIGHEST):
                self.refuse(generators, [
                    call("class_of", which, 0), call("classes", which), call("above", which, 0, 0),
                    call("class_of", which, HIGHEST), call("above", which, HIGHEST, 0)])

    def test_where_undoes_starts(self):
        for start, wanted in ((0, [0, 0]), (1, [0, 1]), (2, [0, 3]), (3, [0, 3]), (4, [0, 4]), (5, [-2])):
            self.assertEqual(ask_made(FOLDS, [call("undoes", 1, start)]), [wanted], start)
        for size, generators in self.each():
            for start in (size, size + 1, 2 ** 32, HIGHEST):
                self.assertEqual(ask_made(generators, [call("undoes", 0, start)]), [[-2]], start)

    def test_where_nothing_undoes(self):
        self.assertEqual(ask_made([[0, 0, 1]], [call("undoes", 0, 0), call("undoes", 1, 0)]), [[-2], [0, 1]])

    def test_undone_one_way_alone_does_not_count(self):
        # 0 0 then 1 0 then 0 0 is 0 0, but 1 0 then 0 0 then 1 0 is 1 1.
        made = [[1, 0], [0, 0]]
        self.assertEqual(ask_made(made, [call("undoes", 1, 0), call("undoes", 1, 2)]), [[0, 1], [0, 3]])

    def test_least(self):
        for size, generators in self.each():
            self.assertEqual(ask_made(generators, [call("least", 0)]), [[-2]])
            for rank in (10, 11, 2 ** 32, HIGHEST):
                self.assertEqual(ask_made(generators, [call("least", rank)]), [[0, 0]])
        around = [[1, 2, 3, 4, 5, 6, 7, 8, 9, 0]]
        self.assertEqual(ask_made(around, [call("least", 9), call("least", 10)]), [[-2], [0, 0]])
        chain = [[1, 2, 3, 4, 5, 6, 7, 8, 9, 9]]
        self.assertEqual(
            ask_made(chain, [call("least", rank) for rank in range(11)]),
            [[-2], [0, 8], [0, 7], [0, 6], [0, 5], [0, 4], [0, 3], [0, 2], [0, 1], [0, 0], [0, 0]])


class Place(unittest.TestCase):
    def test_no_element(self):
        self.assertEqual(ask_made(FOLDS, [call("place", [0, 1, 2]), call("place", [0, 0, 0])]), [[-2], [-2]])

    def test_a_map_of_another_number_of_points(self):
        asked = [call("place", [0] * size) for size in range(1, 11)]
        asked += [call("place", list(range(size))) for size in range(1, 11)]
        self.assertEqual(ask_made(FOLDS, asked), [[-2]] * 20)
        # All of three points go to 0, and so do all of two: yet it is another map.
        self.assertEqual(ask_made([[0, 0, 0]], [call("place", [0, 0]), call("place", [0] * 4)]), [[-2], [-2]])

    def test_no_map(self):
        no_maps = ([], [0] * 11, [0] * 12, [1], [1, 2], [1, 2, 3], [3, 2, 2], [1, 2, HIGHEST], [HIGHEST] * 12)
        for generators in ([[0]], FOLDS, JUST_100):
            self.assertEqual(ask_made(generators, [call("place", row) for row in no_maps]), [[-1]] * len(no_maps))


class NoneMade(unittest.TestCase):
    asked = [*GOOD_QUESTIONS, *WRONG_QUESTIONS, *NONE_THERE]

    def test_ahead_of_any_make(self):
        for one in self.asked:
            self.assertEqual(answers(one), [1, -9], one)
        self.assertEqual(answers(line(*self.asked)), [1, -9] * len(self.asked))

    def test_behind_a_refused_make(self):
        for wrong in WRONG_MAKES:
            self.assertEqual(answers(line(wrong, *self.asked)), [1, -1] + [1, -9] * len(self.asked))
        for wrong in TOO_MANY_MAKES:
            self.assertEqual(answers(line(wrong, *self.asked)), [1, -3] + [1, -9] * len(self.asked))

    def test_maps_are_answered_without_one(self):
        asked = line(call("kind"), call("then", [1, 2, 0], [0, 0, 1]), call("kind"), call("image", [1, 1]))
        self.assertEqual(answers(asked), [1, -9, 4, 0, 0, 1, 0, 1, -9, 2, 0, 1])

    def test_a_lines_beginning_forgets_the_line_before(self):
        self.assertEqual(answers(line(call("make", *FOLDS), call("nth", 0))), [2, 0, 5, 4, 0, 1, 2, 2])
        self.assertEqual(answers(call("nth", 0)), [1, -9])


class WhatStays(unittest.TestCase):
    def test_a_refused_make_leaves_the_first(self):
        for size, generators in ((5, FOLDS), (100, JUST_100), NEAR_100[1]):
            asked = questions_of(size)
            alone = ask_made(generators, asked)
            for wrong in (*WRONG_MAKES, *TOO_MANY_MAKES):
                told = ask_all([call("make", *generators), wrong, *asked])
                self.assertEqual(told[0], [0, size])
                self.assertIn(told[1], ([-1], [-3]))
                self.assertEqual(told[2:], alone)

    def test_refused_questions_leave_it(self):
        asked = questions_of(5)
        alone = ask_made(FOLDS, asked)
        for wrong in (*WRONG_QUESTIONS, *NONE_THERE, call("then", [0], [0, 0]), call("power", HIGHEST, [0])):
            mixed = [one for each in asked for one in (wrong, each)]
            told = ask_made(FOLDS, mixed)
            self.assertEqual(told[1::2], alone)
            for answer in told[0::2]:
                self.assertIn(answer, ([-1], [-2]))

    def test_calls_on_maps_between_change_nothing(self):
        between = [
            call("then", [1, 2, 0], [0, 0, 1]), call("power", 3, [1, 2, 0]), call("ends", [1, 1]),
            call("rest", [1, 2, 3, 3]), call("image", [1, 1]), call("kernel", [2, 2, 0, 0]), call("core", [1, 0]),
            call("steps", [1, 2, 2]), call("undo", [2, 2, 0, 0]), call("before", [0, 0], [0, 0]),
            call("behind", [0, 0], [1, 1]), call("alike", [1, 0, 2], [0, 2, 1])]
        asked = questions_of(5)
        alone = ask_made(FOLDS, asked)
        without = ask_all(between)
        for place, one in enumerate(between):
            mixed = [each for question in asked for each in (one, question)]
            told = ask_made(FOLDS, mixed)
            self.assertEqual(told[1::2], alone)
            self.assertEqual(told[0::2], [without[place]] * len(asked))

    def test_a_second_make(self):
        ways = [(5, FOLDS), (100, JUST_100), (1, [[0]]), NEAR_100[1], (4, [[1, 0], [0, 0]]), (4, [[0, 0], [1, 0]])]
        alone = [ask_made(generators, questions_of(size)) for size, generators in ways]
        for first, (size, generators) in enumerate(ways):
            for second, (other_size, others) in enumerate(ways):
                calls = [call("make", *generators), *questions_of(size), call("make", *others)]
                calls += questions_of(other_size)
                self.assertLessEqual(len(calls), 400)
                wanted = [[0, size], *alone[first], [0, other_size], *alone[second]]
                self.assertEqual(ask_all(calls), wanted)

    def test_places_are_of_the_new_one(self):
        asked = line(
            call("make", [1, 0], [0, 0]), call("place", [0, 0]), call("place", [1, 2, 2]), call("make", *FOLDS),
            call("place", [0, 0]), call("place", [1, 2, 2]), call("nth", 4), call("make", [1, 0], [0, 0]),
            call("nth", 4), call("nth", 3))
        self.assertEqual(answers(asked), [
            2, 0, 4, 2, 0, 1, 1, -2, 2, 0, 5, 1, -2, 2, 0, 0, 4, 0, 1, 1, 2, 2, 0, 4, 1, -1, 3, 0, 1, 1])

    def test_each_question_by_itself_is_as_in_a_row(self):
        for size, generators in ((5, FOLDS), NEAR_100[1]):
            asked = questions_of(size)
            alone = [ask_made(generators, [one])[0] for one in asked]
            self.assertEqual(ask_made(generators, asked), alone)
            self.assertEqual(ask_made(generators, asked[::-1]), alone[::-1])


if __name__ == "__main__":
    unittest.main()
