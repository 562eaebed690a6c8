"""The edges that the document names, and what is refused at them."""

import unittest

from asking import HIGHEST, OF_ONE, OF_TWO, ask, ask_all, call, line
from foldmaps.maps import answers

CHAIN = [1, 2, 3, 4, 5, 6, 7, 8, 9, 9]
ROUND = [1, 2, 3, 4, 5, 6, 7, 8, 9, 0]
STILL = list(range(10))
# Rounds of 2, 3 and 5 points: of ten points none comes round later.
LONGEST = [1, 0, 3, 4, 2, 6, 7, 8, 9, 5]


class OnePoint(unittest.TestCase):
    def test_each_call(self):
        wanted = {
            "ends": [0, 0, 1], "rest": [0, 0], "image": [0, 0], "kernel": [0, 0], "core": [0, 0],
            "steps": [0, 0], "undo": [0, 0]}
        for name in OF_ONE:
            self.assertEqual(ask(name, [0]), wanted[name], name)
        for name in OF_TWO:
            self.assertEqual(ask(name, [0], [0]), [0, 0], name)
        for k in (0, 1, 2, 4294967295):
            self.assertEqual(ask("power", k, [0]), [0, 0])


class TenPoints(unittest.TestCase):
    def test_then(self):
        self.assertEqual(ask("then", CHAIN, ROUND), [0, 2, 3, 4, 5, 6, 7, 8, 9, 0, 0])
        self.assertEqual(ask("then", ROUND, CHAIN), [0, 2, 3, 4, 5, 6, 7, 8, 9, 9, 1])

    def test_ends(self):
        self.assertEqual(ask("ends", CHAIN), [0, 9, 1])
        self.assertEqual(ask("ends", ROUND), [0, 0, 10])
        self.assertEqual(ask("ends", STILL), [0, 0, 1])
        self.assertEqual(ask("ends", LONGEST), [0, 0, 30])

    def test_rest(self):
        self.assertEqual(ask("rest", CHAIN), [0] + [9] * 10)
        self.assertEqual(ask("rest", LONGEST), [0] + STILL)
        self.assertEqual(ask("rest", [1, 2, 3, 4, 5, 6, 7, 8, 9, 7]), [0, 9, 7, 8, 9, 7, 8, 9, 7, 8, 9])

    def test_image_kernel_core_steps(self):
        self.assertEqual(ask("image", CHAIN), [0, 1, 2, 3, 4, 5, 6, 7, 8, 9])
        self.assertEqual(ask("kernel", CHAIN), [0, 0, 1, 2, 3, 4, 5, 6, 7, 8, 8])
        self.assertEqual(ask("core", CHAIN), [0, 9])
        self.assertEqual(ask("core", LONGEST), [0] + STILL)
        self.assertEqual(ask("steps", CHAIN), [0, 9, 8, 7, 6, 5, 4, 3, 2, 1, 0])
        self.assertEqual(ask("steps", LONGEST), [0] + [0] * 10)

    def test_undo_before_behind(self):
        self.assertEqual(ask("undo", CHAIN), [0, 0, 0, 1, 2, 3, 4, 5, 6, 7, 8])
        self.assertEqual(ask("before", CHAIN, [9] * 10), [0] + [8] * 10)
        self.assertEqual(ask("before", CHAIN, [0] * 10), [-2])
        self.assertEqual(ask("behind", CHAIN, [9, 8, 7, 6, 5, 4, 3, 2, 1, 1]), [0, 0, 9, 8, 7, 6, 5, 4, 3, 2, 1])
        self.assertEqual(ask("behind", CHAIN, STILL), [-2])

    def test_alike(self):
        self.assertEqual(ask("alike", CHAIN, CHAIN), [0] + STILL)
        self.assertEqual(ask("alike", CHAIN, [0, 0, 1, 2, 3, 4, 5, 6, 7, 8]), [0, 9, 8, 7, 6, 5, 4, 3, 2, 1, 0])
        self.assertEqual(ask("alike", STILL, STILL), [0] + STILL)
        self.assertEqual(ask("alike", ROUND, LONGEST), [-2])
        self.assertEqual(ask("alike", [0] * 10, [9] * 10), [0, 9, 0, 1, 2, 3, 4, 5, 6, 7, 8])
        two_fives = [1, 2, 3, 4, 0, 6, 7, 8, 9, 5]
        self.assertEqual(ask("alike", ROUND, two_fives), [-2])
        self.assertEqual(ask("alike", two_fives, ROUND), [-2])


class HowOften(unittest.TestCase):
    def test_none_and_few(self):
        self.assertEqual(ask("power", 0, CHAIN), [0] + STILL)
        self.assertEqual(ask("power", 0, [2, 2, 2]), [0, 0, 1, 2])
        self.assertEqual(ask("power", 1, CHAIN), [0] + CHAIN)
        self.assertEqual(ask("power", 2, CHAIN), [0, 2, 3, 4, 5, 6, 7, 8, 9, 9, 9])

    def test_the_most(self):
        # 2^32 - 1 is 5 more than a multiple of 10, and 15 more than one of 30.
        self.assertEqual(ask("power", 4294967295, ROUND), [0, 5, 6, 7, 8, 9, 0, 1, 2, 3, 4])
        self.assertEqual(ask("power", 4294967295, LONGEST), [0, 1, 0, 2, 3, 4, 5, 6, 7, 8, 9])
        self.assertEqual(ask("power", 4294967295, CHAIN), [0] + [9] * 10)
        self.assertEqual(ask("power", 4294967294, ROUND), [0, 4, 5, 6, 7, 8, 9, 0, 1, 2, 3])

    def test_too_often(self):
        for k in (4294967296, 4294967297, HIGHEST):
            self.assertEqual(answers(call("power", k, ROUND)), [1, -1])
            self.assertEqual(answers(call("power", k, [0])), [1, -1])
            self.assertEqual(answers(call("power", k, [])), [1, -1])


class NoMaps(unittest.TestCase):
    no_maps = (
        [], [0] * 11, [0] * 12, list(range(11)), list(range(12)), [1], [HIGHEST], [0, 2], [2, 0], [0, 1, 3],
        [3, 1, 0], [0] * 9 + [10], [10] + [0] * 9, [0] * 9 + [HIGHEST], [HIGHEST] * 10, [HIGHEST] * 12)

    def test_refused_by_the_number_alone(self):
        for row in self.no_maps:
            for name in OF_ONE:
                self.assertEqual(answers(call(name, row)), [1, -1], (name, row))
            for k in (0, 1, 4294967295):
                self.assertEqual(answers(call("power", k, row)), [1, -1], (k, row))

    def test_refused_on_either_side(self):
        for row in self.no_maps:
            fitting = [0] * max(1, min(len(row), 10))
            for name in OF_TWO:
                self.assertEqual(answers(call(name, row, fitting)), [1, -1], (name, row))
                self.assertEqual(answers(call(name, fitting, row)), [1, -1], (name, row))
                self.assertEqual(answers(call(name, row, row)), [1, -1], (name, row))

    def test_the_highest_point_is_no_fault(self):
        for size in range(1, 11):
            row = [size - 1] * size
            self.assertEqual(ask("image", row), [0, size - 1])
            self.assertEqual(ask("then", row, row), [0] + row)

    def test_not_as_many_points(self):
        for size in range(1, 11):
            for other in range(1, 11):
                if size == other:
                    continue
                for name in OF_TWO:
                    self.assertEqual(answers(call(name, [0] * size, [0] * other)), [1, -1], (name, size, other))
                    self.assertEqual(
                        answers(call(name, list(range(size)), list(range(other)))), [1, -1], (name, size, other))


class BehindARefusal(unittest.TestCase):
    refused = (
        call("then", [0, 1], [0]), call("power", HIGHEST, [0]), call("ends", []), call("rest", [1]),
        call("image", [0] * 12), call("kernel", [0] * 11), call("core", [HIGHEST]), call("steps", []),
        call("undo", [0, 2]), call("before", [0, 0], [0, 1]), call("behind", [0, 0], [0, 1]),
        call("alike", [0, 0], [0, 1]), call("alike", [0], []))

    def test_the_rest_is_answered_as_if_it_had_not_been_there(self):
        asked = [
            call("then", [1, 2, 0], [0, 0, 1]), call("power", 3, CHAIN), call("ends", LONGEST),
            call("rest", [1, 2, 3, 3]), call("image", CHAIN), call("kernel", CHAIN), call("core", CHAIN),
            call("steps", CHAIN), call("undo", CHAIN), call("before", CHAIN, [9] * 10),
            call("behind", CHAIN, [9] * 10), call("alike", CHAIN, CHAIN)]
        alone = ask_all(asked)
        for wrong in self.refused:
            mixed = [one for each in asked for one in (wrong, each)] + [wrong]
            told = ask_all(mixed)
            self.assertEqual(told[1::2], alone)
            for answer in told[0::2]:
                self.assertIn(answer, ([-1], [-2]))

    def test_each_refusal_is_one_number(self):
        told = answers(line(*self.refused))
        self.assertEqual(told, [1, -1] * 9 + [1, -2] * 3 + [1, -1])


if __name__ == "__main__":
    unittest.main()
