"""The call where."""

import unittest

from tests.writing import TOP, answered, begins, edition, last, lines, pages, where

# Ten words: pages of 2, 1 and 2 lines; lines of 1, 3, 2, 1 and 3 words.
BOOK = [edition([9] * 10), lines(0, [1, 3, 2, 1, 3]), pages(0, [2, 1, 2])]
PLACES = [[0, 0, 0], [0, 1, 0], [0, 1, 1], [0, 1, 2], [1, 0, 0], [1, 0, 1], [2, 0, 0], [2, 1, 0], [2, 1, 1], [2, 1, 2]]


class WhereTest(unittest.TestCase):
    def test_each_word(self):
        asked = [where(0, number) for number in range(10)]
        self.assertEqual(answered(*BOOK, *asked)[3:], [[0] + place for place in PLACES])

    def test_as_told_first(self):
        for size in (1, 2, 80):
            book = edition([4] * size)
            self.assertEqual(last(book, where(0, 0)), [0, 0, 0, 0])
            self.assertEqual(last(book, where(0, size - 1)), [0, 0, 0, size - 1])
            self.assertEqual(last(book, where(0, size)), [-6])

    def test_a_line_a_word_and_a_page_a_line(self):
        book = [edition([4] * 80), lines(0, [1] * 80)]
        self.assertEqual(last(*book, where(0, 79)), [0, 0, 79, 0])
        self.assertEqual(last(*book, pages(0, [1] * 80), where(0, 79)), [0, 79, 0, 0])
        self.assertEqual(last(*book, pages(0, [79, 1]), where(0, 78)), [0, 0, 78, 0])
        self.assertEqual(last(*book, pages(0, [79, 1]), where(0, 79)), [0, 1, 0, 0])

    def test_no_such_word(self):
        for number in (10, 11, 80, TOP):
            self.assertEqual(last(*BOOK, where(0, number)), [-6], number)

    def test_no_such_edition(self):
        self.assertEqual(answered(where(0, 0)), [[-2]])
        for k in (1, 2, 4, TOP):
            for number in (0, 9, 10, TOP):
                self.assertEqual(last(*BOOK, where(k, number)), [-2], (k, number))
        self.assertEqual(last(*BOOK, begins(), where(0, 0)), [-2])

    def test_lines_and_pages_told_anew(self):
        self.assertEqual(
            answered(*BOOK, where(0, 7), pages(0, [5]), where(0, 7), lines(0, [4, 6]), where(0, 7), pages(0, [1, 1]),
                     where(0, 7), lines(0, [4, 6]), where(0, 7)),
            [[0], [5], [3], [0, 2, 1, 0], [1], [0, 0, 4, 0], [2], [0, 0, 1, 3], [2], [0, 1, 0, 3], [2], [0, 0, 1, 3]])

    def test_refused_lines_and_pages_leave_the_places(self):
        for wrong in (lines(0, [4, 5]), lines(0, []), lines(0, [10, 0]), lines(1, [10]), pages(0, [4]),
                      pages(0, [5, 0]), pages(0, [])):
            self.assertEqual(last(*BOOK, wrong, where(0, 7)), [0, 2, 1, 0], wrong)

    def test_each_edition_has_its_own(self):
        book = [edition([4, 5]), edition([4, 5]), lines(0, [1, 1]), pages(0, [1, 1])]
        self.assertEqual(last(*book, where(0, 1)), [0, 1, 0, 0])
        self.assertEqual(last(*book, where(1, 1)), [0, 0, 0, 1])


if __name__ == "__main__":
    unittest.main()
