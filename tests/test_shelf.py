"""What the calls keep and what a refusal leaves as it was, where no answer of theirs tells it."""

import unittest

from tests.writing import TOP
from twoeditions.shelf import Shelf


def state(shelf):
    kept = [(list(e.words), list(e.line_sizes), list(e.page_sizes)) for e in shelf.editions]
    return kept, tuple(shelf.costs)


def filled():
    shelf = Shelf()
    shelf.add_edition([5, 6, 7, 6])
    shelf.add_edition([5, 7])
    shelf.set_lines(0, [1, 2, 1])
    shelf.set_pages(0, [1, 2])
    shelf.set_costs(3, 1, 100)
    return shelf


class KeptTest(unittest.TestCase):
    def test_a_new_one(self):
        self.assertEqual(state(Shelf()), ([], (2, 2, 2)))

    def test_what_is_told_is_kept(self):
        self.assertEqual(state(filled()), ([([5, 6, 7, 6], [1, 2, 1], [1, 2]), ([5, 7], [2], [1])], (3, 1, 100)))

    def test_lines_told_after_pages_are_on_one_page(self):
        shelf = filled()
        self.assertEqual(shelf.set_lines(0, [2, 2]), [2])
        self.assertEqual(state(shelf)[0][0], ([5, 6, 7, 6], [2, 2], [2]))

    def test_the_same_lines_told_again_are_on_one_page(self):
        shelf = filled()
        self.assertEqual(shelf.set_lines(0, [1, 2, 1]), [3])
        self.assertEqual(state(shelf)[0][0], ([5, 6, 7, 6], [1, 2, 1], [3]))

    def test_costs_told_anew(self):
        shelf = filled()
        self.assertEqual(shelf.set_costs(1, 2, 3), [0])
        self.assertEqual(state(shelf)[1], (1, 2, 3))

    def test_begin_makes_it_as_new(self):
        shelf = filled()
        self.assertEqual(shelf.begin(), [0])
        self.assertEqual(state(shelf), state(Shelf()))


class RefusedTest(unittest.TestCase):
    def refused(self, shelf, answer, number):
        before = state(shelf)
        self.assertEqual(answer(), [number])
        self.assertEqual(state(shelf), before)

    def test_edition(self):
        shelf = filled()
        for words in ([], [0], [1, 100000], [TOP], [1] * 81, [1] * 120):
            self.refused(shelf, lambda: shelf.add_edition(words), -1)
        shelf.add_edition([1])
        shelf.add_edition([1])
        self.refused(shelf, lambda: shelf.add_edition([1]), -5)
        self.refused(shelf, lambda: shelf.add_edition([0]), -1)

    def test_lines(self):
        shelf = filled()
        for counts in ([], [3], [5], [2, 0, 2], [1, 1, 1], [TOP, 5]):
            self.refused(shelf, lambda: shelf.set_lines(0, counts), -1)
            self.refused(shelf, lambda: shelf.set_lines(2, counts), -2)
            self.refused(shelf, lambda: shelf.set_lines(TOP, counts), -2)

    def test_pages(self):
        shelf = filled()
        for counts in ([], [2], [4], [1, 0, 2], [1, 1], [TOP, 4]):
            self.refused(shelf, lambda: shelf.set_pages(0, counts), -1)
            self.refused(shelf, lambda: shelf.set_pages(2, counts), -2)
            self.refused(shelf, lambda: shelf.set_pages(TOP, counts), -2)

    def test_costs(self):
        shelf = filled()
        for wrong in (0, 101, TOP):
            self.refused(shelf, lambda: shelf.set_costs(wrong, 5, 5), -1)
            self.refused(shelf, lambda: shelf.set_costs(5, wrong, 5), -1)
            self.refused(shelf, lambda: shelf.set_costs(5, 5, wrong), -1)


if __name__ == "__main__":
    unittest.main()
