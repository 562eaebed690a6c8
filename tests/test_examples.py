"""The document's examples, and each call at ordinary maps worked out by hand."""

import unittest

from asking import ask, ask_made, call, line
from foldmaps.maps import answers


class TheDocumentsExamples(unittest.TestCase):
    def test_then(self):
        self.assertEqual(answers([1, 0, 2, 3, 1, 2, 0, 3, 0, 0, 1]), [4, 0, 0, 1, 0])

    def test_power(self):
        self.assertEqual(answers([2, 1, 4294967295, 1, 3, 1, 2, 0]), [4, 0, 0, 1, 2])

    def test_ends(self):
        self.assertEqual(answers([3, 0, 1, 4, 1, 2, 3, 3]), [3, 0, 3, 1])
        self.assertEqual(answers([3, 0, 1, 5, 1, 0, 3, 4, 2]), [3, 0, 0, 6])

    def test_rest(self):
        self.assertEqual(answers([4, 0, 1, 4, 1, 2, 3, 3]), [5, 0, 3, 3, 3, 3])

    def test_kernel_core_steps(self):
        self.assertEqual(answers([6, 0, 1, 4, 2, 2, 0, 0]), [5, 0, 0, 0, 2, 2])
        self.assertEqual(answers([7, 0, 1, 4, 2, 2, 0, 0]), [3, 0, 0, 2])
        self.assertEqual(answers([8, 0, 1, 4, 2, 2, 0, 0]), [5, 0, 0, 1, 0, 1])

    def test_undo(self):
        self.assertEqual(answers([9, 0, 1, 4, 2, 2, 0, 0]), [5, 0, 2, 0, 0, 0])

    def test_alike(self):
        self.assertEqual(answers([12, 0, 2, 3, 1, 0, 2, 3, 0, 2, 1]), [4, 0, 1, 2, 0])

    def test_make(self):
        self.assertEqual(answers([13, 0, 2, 2, 1, 0, 2, 0, 0]), [2, 0, 4])
        made = [13, 0, 2, 2, 1, 0, 2, 0, 0]
        self.assertEqual(
            answers(made + [14, 1, 0, 0, 14, 1, 1, 0, 14, 1, 2, 0, 14, 1, 3, 0]),
            [2, 0, 4, 3, 0, 1, 0, 3, 0, 0, 0, 3, 0, 0, 1, 3, 0, 1, 1])
        self.assertEqual(
            answers(made + [16, 1, 0, 0, 16, 1, 1, 0, 16, 1, 2, 0, 16, 1, 3, 0]),
            [2, 0, 4, 2, 0, 0, 2, 0, 1, 3, 0, 0, 0, 3, 0, 1, 0])
        self.assertEqual(answers(made + [15, 0, 1, 2, 1, 1, 15, 0, 1, 2, 0, 1]), [2, 0, 4, 2, 0, 3, 2, 0, 2])

    def test_all_in_one_line(self):
        asked = line(
            call("then", [1, 2, 0], [0, 0, 1]), call("power", 4294967295, [1, 2, 0]), call("ends", [1, 2, 3, 3]),
            call("ends", [1, 0, 3, 4, 2]), call("rest", [1, 2, 3, 3]), call("kernel", [2, 2, 0, 0]),
            call("core", [2, 2, 0, 0]), call("steps", [2, 2, 0, 0]), call("undo", [2, 2, 0, 0]),
            call("alike", [1, 0, 2], [0, 2, 1]))
        self.assertEqual(answers(asked), [
            4, 0, 0, 1, 0, 4, 0, 0, 1, 2, 3, 0, 3, 1, 3, 0, 0, 6, 5, 0, 3, 3, 3, 3, 5, 0, 0, 0, 2, 2,
            3, 0, 0, 2, 5, 0, 0, 1, 0, 1, 5, 0, 2, 0, 0, 0, 4, 0, 1, 2, 0])


class OrdinaryMaps(unittest.TestCase):
    def test_then_does_the_first_first(self):
        self.assertEqual(ask("then", [1, 1, 2], [2, 0, 1]), [0, 0, 0, 1])
        self.assertEqual(ask("then", [2, 0, 1], [1, 1, 2]), [0, 2, 1, 1])

    def test_power(self):
        self.assertEqual(ask("power", 2, [1, 2, 3, 4, 4]), [0, 2, 3, 4, 4, 4])
        self.assertEqual(ask("power", 5, [1, 2, 0, 0]), [0, 2, 0, 1, 1])

    def test_ends(self):
        self.assertEqual(ask("ends", [0, 1, 2]), [0, 0, 1])
        self.assertEqual(ask("ends", [1, 2, 3, 1]), [0, 1, 3])
        self.assertEqual(ask("ends", [1, 2, 3, 4, 3]), [0, 3, 2])

    def test_rest(self):
        self.assertEqual(ask("rest", [1, 2, 0]), [0, 0, 1, 2])
        self.assertEqual(ask("rest", [1, 2, 3, 1]), [0, 3, 1, 2, 3])

    def test_image(self):
        self.assertEqual(ask("image", [4, 2, 2, 0, 4]), [0, 0, 2, 4])

    def test_kernel(self):
        self.assertEqual(ask("kernel", [4, 2, 2, 0, 4]), [0, 0, 1, 1, 3, 0])

    def test_core_and_steps(self):
        self.assertEqual(ask("core", [1, 2, 3, 4, 3, 0]), [0, 3, 4])
        self.assertEqual(ask("steps", [1, 2, 3, 4, 3, 0]), [0, 3, 2, 1, 0, 0, 4])

    def test_undo(self):
        self.assertEqual(ask("undo", [3, 3, 1, 1]), [0, 0, 2, 0, 0])

    def test_before(self):
        self.assertEqual(ask("before", [1, 1, 2], [2, 1, 1]), [0, 2, 0, 0])
        self.assertEqual(ask("before", [1, 1, 2], [2, 1, 0]), [-2])

    def test_behind(self):
        self.assertEqual(ask("behind", [1, 1, 2], [2, 2, 1]), [0, 0, 2, 1])
        self.assertEqual(ask("behind", [1, 1, 2], [2, 1, 1]), [-2])

    def test_alike(self):
        self.assertEqual(ask("alike", [1, 2, 2], [0, 0, 1]), [0, 2, 1, 0])
        self.assertEqual(ask("alike", [1, 2, 2], [2, 2, 2]), [-2])
        self.assertEqual(ask("alike", [1, 0, 2, 2], [1, 0, 3, 3]), [0, 0, 1, 3, 2])


class OrdinarySemigroups(unittest.TestCase):
    # 1 2 2 and 0 0 2 by their words: 0: 1 2 2, 1: 0 0 2, 0 0: 2 2 2, 0 1: 0 2 2, 1 0: 1 1 2, and no others.
    folds = [[1, 2, 2], [0, 0, 2]]

    def test_elements_and_words(self):
        told = ask_made(self.folds, [call("nth", i) for i in range(5)] + [call("word", i) for i in range(5)])
        self.assertEqual(told[:5], [[0, 1, 2, 2], [0, 0, 0, 2], [0, 2, 2, 2], [0, 0, 2, 2], [0, 1, 1, 2]])
        self.assertEqual(told[5:], [[0, 0], [0, 1], [0, 0, 0], [0, 0, 1], [0, 1, 0]])

    def test_product(self):
        rows = [[2, 3, 2, 2, 0], [4, 1, 2, 1, 4], [2, 2, 2, 2, 2], [0, 3, 2, 3, 0], [2, 1, 2, 2, 4]]
        told = ask_made(self.folds, [call("product", i, j) for i in range(5) for j in range(5)])
        self.assertEqual(told, [[0, number] for row in rows for number in row])

    def test_above(self):
        asked = [(0, 3, 1), (0, 1, 3), (1, 4, 1), (1, 1, 4), (1, 3, 1), (2, 3, 4), (2, 2, 0), (2, 0, 2), (0, 4, 4)]
        self.assertEqual(
            ask_made(self.folds, [call("above", *one) for one in asked]),
            [[0, 1], [0, 1], [0, 1], [0, 1], [0, 0], [0, 1], [0, 1], [0, 0], [0, 1]])

    def test_classes(self):
        self.assertEqual(
            ask_made(self.folds, [call("classes", which) for which in range(4)]),
            [[0, 0, 1, 2], [0, 0, 1, 2], [0, 0, 2], [0, 0, 1, 2, 3, 4]])
        told = ask_made(self.folds, [call("class_of", which, i) for which in range(4) for i in range(5)])
        self.assertEqual(told, [
            [0, number] for number in (0, 1, 2, 1, 0, 0, 1, 2, 0, 1, 0, 0, 1, 0, 0, 0, 1, 2, 3, 4)])

    def test_kind_undoes_least(self):
        self.assertEqual(ask_made(self.folds, [call("kind")]), [[0, 4 + 8 + 64]])
        self.assertEqual(
            ask_made(self.folds, [call("undoes", i, start) for i in (0, 1) for start in range(3)]),
            [[0, 1], [0, 1], [-2], [0, 0], [0, 1], [0, 3]])
        self.assertEqual(
            ask_made(self.folds, [call("least", rank) for rank in range(4)]), [[-2], [0, 2], [0, 0], [0, 0]])


if __name__ == "__main__":
    unittest.main()
