"""The calls find, word, table and agree on editions small enough to be gone through by hand."""

import unittest

from tests.writing import (
    TOP, agree, answered, begins, costs, edition, find, firsts, last, lines, pages, table, word)

# 10 20 | 30 40 50 || 60   and   5 10 20 || 99 50 | 60 70   (a line's end |, a page's end ||).
# Beside one another stand 10 10, 20 20, 30 99, 50 50, 60 60; 40 is left out, 5 and 70 are put in.
TWO = [edition([10, 20, 30, 40, 50, 60]), lines(0, [2, 3, 1]), pages(0, [2, 1]),
       edition([5, 10, 20, 99, 50, 60, 70]), lines(1, [3, 2, 2]), pages(1, [1, 2])]

# Nothing is alike, and nothing is put beside anything else.
APART = [costs(100, 1, 1), edition([1, 2, 3]), lines(0, [1, 2]), pages(0, [1, 1]), edition([7, 8]), lines(1, [1, 1])]

FOUND_AND_WHOLE = ("find", "word", "table", "agree")


def asked(name, k, m):
    return {"find": find(k, 0, 0, m), "word": word(k, 0, m), "table": table(k, m), "agree": agree(k, m)}[name]


class FindTest(unittest.TestCase):
    def test_lines_with_partners(self):
        self.assertEqual(last(*TWO, find(0, 0, 0, 1)), [0, 2, 2, 0, 0, 1, 0, 0, 2])
        self.assertEqual(last(*TWO, find(0, 0, 1, 1)), [0, 2, 1, 1, 0, 0, 1, 0, 1])
        self.assertEqual(last(*TWO, find(0, 1, 0, 1)), [0, 1, 1, 1, 1, 0, 1, 1, 0])

    def test_back_from_the_later_edition(self):
        self.assertEqual(last(*TWO, find(1, 0, 0, 0)), [0, 2, 2, 0, 0, 0, 0, 0, 1])
        self.assertEqual(last(*TWO, find(1, 1, 0, 0)), [0, 2, 1, 0, 1, 0, 0, 1, 2])
        self.assertEqual(last(*TWO, find(1, 1, 1, 0)), [0, 1, 1, 1, 0, 0, 1, 0, 0])

    def test_a_gap_at_the_beginning(self):
        self.assertEqual(last(*TWO, lines(1, [1, 6]), find(1, 0, 0, 0)), [1, 0, 0, 0])
        self.assertEqual(last(*APART, find(0, 0, 0, 1)), [1, 0, 0, 0])
        self.assertEqual(last(*APART, find(0, 1, 0, 1)), [1, 0, 0, 0])

    def test_a_gap_in_the_middle(self):
        self.assertEqual(last(*TWO, lines(0, [3, 1, 2]), find(0, 0, 1, 1)), [1, 1, 0, 1])

    # The words that are put in there stand behind the gap, be they many.
    def test_a_gap_ahead_of_words_put_in(self):
        two = [costs(9, 2, 2), edition([1, 2, 3, 4]), edition([1, 8, 9, 4]), lines(0, [1, 2, 1])]
        self.assertEqual(last(*two, find(0, 0, 1, 1)), [1, 0, 0, 1])
        self.assertEqual(last(*two, word(1, 2, 0)), [1, 0, 1, 0])

    def test_a_gap_behind_the_last_word(self):
        self.assertEqual(last(*TWO, lines(1, [6, 1]), find(1, 0, 1, 0)), [1])
        two = [edition([1, 2, 3]), edition([1]), lines(0, [1, 1, 1])]
        self.assertEqual(answered(*two, find(0, 0, 1, 1), find(0, 0, 2, 1))[3:], [[1], [1]])

    def test_the_same_edition(self):
        self.assertEqual(last(*TWO, find(0, 0, 1, 0)), [0, 3, 3, 0, 1, 0, 0, 1, 2])
        self.assertEqual(last(*TWO, find(1, 1, 1, 1)), [0, 2, 2, 1, 1, 0, 1, 1, 1])

    def test_a_line_of_80_words(self):
        two = [edition([3] * 80), edition([3] * 79 + [4]), lines(1, [40, 40])]
        self.assertEqual(last(*two, find(0, 0, 0, 1)), [0, 80, 79, 0, 0, 0, 0, 1, 39])

    def test_no_such_page_or_line(self):
        for page, line in ((0, 2), (1, 1), (2, 0), (3, 0), (TOP, 0), (0, TOP), (1, TOP), (TOP, TOP)):
            for m in (0, 1):
                self.assertEqual(last(*TWO, find(0, page, line, m)), [-6], (page, line, m))

    def test_no_such_edition_ahead_of_no_such_line(self):
        for k, m in ((0, 2), (2, 0), (2, 2), (1, 4), (TOP, 0), (0, TOP)):
            for page, line in ((0, 0), (0, 2), (5, 0), (TOP, TOP)):
                self.assertEqual(last(*TWO, find(k, page, line, m)), [-2], (k, page, line, m))


class WordTest(unittest.TestCase):
    def test_each_word_of_the_earlier(self):
        self.assertEqual(answered(*TWO, *[word(0, number, 1) for number in range(6)])[6:], [
            [0, 1, 1, 0, 0, 1, 0, 0, 1], [0, 1, 1, 0, 0, 2, 0, 0, 2], [0, 1, 0, 1, 0, 0, 1, 0, 0],
            [1, 1, 0, 1], [0, 1, 1, 1, 0, 1, 1, 0, 1], [0, 1, 1, 1, 1, 0, 1, 1, 0]])

    def test_each_word_of_the_later(self):
        self.assertEqual(answered(*TWO, *[word(1, number, 0) for number in range(7)])[6:], [
            [1, 0, 0, 0], [0, 1, 1, 0, 0, 0, 0, 0, 0], [0, 1, 1, 0, 0, 1, 0, 0, 1], [0, 1, 0, 0, 1, 0, 0, 1, 0],
            [0, 1, 1, 0, 1, 2, 0, 1, 2], [0, 1, 1, 1, 0, 0, 1, 0, 0], [1]])

    def test_the_same_edition(self):
        self.assertEqual(last(*TWO, word(0, 4, 0)), [0, 1, 1, 0, 1, 2, 0, 1, 2])
        self.assertEqual(last(*TWO, word(1, 6, 1)), [0, 1, 1, 1, 1, 1, 1, 1, 1])

    def test_the_same_word_again_and_again_in_the_same_edition(self):
        book = edition([3] * 4)
        self.assertEqual(answered(book, *[word(0, number, 0) for number in range(4)])[1:],
                         [[0, 1, 1, 0, 0, number, 0, 0, number] for number in range(4)])

    def test_no_such_word(self):
        for number in (6, 7, 80, TOP):
            self.assertEqual(last(*TWO, word(0, number, 1)), [-6], number)
            self.assertEqual(last(*TWO, word(0, number, 0)), [-6], number)
        # It's k that has to have the word, not m.
        self.assertEqual(last(*TWO, word(1, 6, 0)), [1])
        self.assertEqual(last(*TWO, word(1, 7, 0)), [-6])

    def test_no_such_edition_ahead_of_no_such_word(self):
        for k, m in ((0, 2), (2, 0), (2, 2), (1, 4), (TOP, 0), (0, TOP)):
            for number in (0, 6, TOP):
                self.assertEqual(last(*TWO, word(k, number, m)), [-2], (k, number, m))


class TableTest(unittest.TestCase):
    def test_pages_with_partners(self):
        self.assertEqual(last(*TWO, table(0, 1)), [2, 1, 2, 2, 2])
        self.assertEqual(last(*TWO, table(1, 0)), [2, 1, 1, 1, 2])

    def test_pages_without(self):
        self.assertEqual(last(*APART, table(0, 1)), [2, 0, 0, 0, 0])
        self.assertEqual(last(*APART, table(1, 0)), [1, 0, 0])

    def test_pages_with_and_without(self):
        told = TWO + [lines(1, [1, 2, 1, 2, 1]), pages(1, [1, 1, 1, 1, 1]), lines(0, [3, 1, 2]), pages(0, [1, 1, 1])]
        self.assertEqual(last(*told, table(0, 1)), [3, 2, 3, 0, 0, 4, 4])
        self.assertEqual(last(*told, table(1, 0)), [5, 0, 0, 1, 1, 1, 1, 3, 3, 0, 0])

    def test_the_same_edition(self):
        self.assertEqual(last(*TWO, table(0, 0)), [2, 1, 1, 2, 2])

    def test_80_pages(self):
        two = [edition([3] * 80), lines(0, [1] * 80), pages(0, [1] * 80), edition([3] * 80), lines(1, [1] * 80),
               pages(1, [1] * 80)]
        expected = [80] + [page for number in range(80) for page in (number + 1, number + 1)]
        self.assertEqual(last(*two, table(0, 1)), expected)
        self.assertEqual(last(*two, table(1, 0)), expected)

    def test_no_such_edition(self):
        for k, m in ((0, 2), (2, 0), (2, 2), (TOP, 0), (0, TOP)):
            self.assertEqual(last(*TWO, table(k, m)), [-2], (k, m))


class AgreeTest(unittest.TestCase):
    def test_like_and_unlike_pairs(self):
        self.assertEqual(last(*TWO, agree(0, 1)), [5, 4])
        self.assertEqual(last(*TWO, agree(1, 0)), [5, 4])

    def test_unlike_pairs_alone(self):
        self.assertEqual(last(edition([1, 2, 3]), edition([4, 5]), agree(0, 1)), [2, 0])

    def test_no_pairs(self):
        self.assertEqual(last(*APART, agree(0, 1)), [0, 0])
        self.assertEqual(last(*APART, agree(1, 0)), [0, 0])

    def test_the_same_edition(self):
        self.assertEqual(last(*TWO, agree(0, 0)), [6, 6])
        self.assertEqual(last(*TWO, agree(1, 1)), [7, 7])

    def test_words_told_twice_over(self):
        self.assertEqual(last(edition([1] * 80), edition([1] * 80), agree(0, 1)), [80, 80])

    def test_no_such_edition(self):
        for k, m in ((0, 2), (2, 0), (2, 2), (TOP, 0), (0, TOP)):
            self.assertEqual(last(*TWO, agree(k, m)), [-2], (k, m))


class AmongSeveralTest(unittest.TestCase):
    def test_nothing_is_there_at_the_beginning(self):
        for name in FOUND_AND_WHOLE:
            self.assertEqual(firsts(asked(name, 0, 0)), [-2], name)
            self.assertEqual(last(*TWO, begins(), asked(name, 0, 1)), [-2], name)

    def test_each_two_of_four(self):
        four = [edition([1, 2, 3]), edition([2, 3]), edition([9, 9, 1, 2, 3]), edition([3])]
        agreed = {(0, 1): [2, 2], (0, 2): [3, 3], (0, 3): [1, 1], (1, 2): [2, 2], (1, 3): [1, 1], (2, 3): [1, 1]}
        for (k, m), answer in agreed.items():
            self.assertEqual(last(*four, agree(k, m)), answer, (k, m))
            self.assertEqual(last(*four, agree(m, k)), answer, (m, k))


class ToldAnewTest(unittest.TestCase):
    def test_lines_and_pages_of_where_it_is_looked_for(self):
        self.assertEqual(
            answered(*TWO, find(0, 0, 1, 1), pages(1, [3]), find(0, 0, 1, 1), lines(1, [4, 3]), find(0, 0, 1, 1),
                     lines(1, [4, 4]), find(0, 0, 1, 1))[6:],
            [[0, 2, 1, 1, 0, 0, 1, 0, 1], [1], [0, 2, 1, 0, 1, 0, 0, 1, 1], [2], [0, 2, 1, 0, 0, 3, 0, 1, 0],
             [-1], [0, 2, 1, 0, 0, 3, 0, 1, 0]])

    def test_lines_and_pages_of_what_is_looked_for(self):
        self.assertEqual(
            answered(*TWO, find(0, 1, 0, 1), pages(0, [1, 2]), find(0, 1, 0, 1), table(0, 1), lines(0, [6]),
                     find(0, 1, 0, 1), find(0, 0, 0, 1), table(0, 1))[6:],
            [[0, 1, 1, 1, 1, 0, 1, 1, 0], [2], [0, 2, 1, 1, 0, 0, 1, 0, 1], [2, 1, 1, 2, 2], [1],
             [-6], [0, 5, 4, 0, 0, 1, 1, 1, 0], [1, 1, 2]])

    def test_costs(self):
        self.assertEqual(
            answered(*TWO, agree(0, 1), word(0, 2, 1), costs(5, 2, 2), agree(0, 1), word(0, 2, 1), costs(0, 2, 2),
                     agree(0, 1), costs(4, 2, 2), agree(1, 0), word(0, 2, 1))[6:],
            [[5, 4], [0, 1, 0, 1, 0, 0, 1, 0, 0], [0], [4, 4], [1, 1, 0, 0], [-1],
             [4, 4], [0], [5, 4], [0, 1, 0, 1, 0, 0, 1, 0, 0]])

    def test_costs_are_as_at_first_when_it_begins_anew(self):
        self.assertEqual(
            answered(costs(100, 1, 1), edition([1]), edition([2]), agree(0, 1), begins(), edition([1]), edition([2]),
                     agree(0, 1)),
            [[0], [0], [1], [0, 0], [0], [0], [1], [1, 0]])

    def test_editions_told_anew(self):
        self.assertEqual(
            answered(edition([1, 2]), edition([2]), word(1, 0, 0), begins(), edition([2, 1]), edition([2]),
                     word(1, 0, 0))[2::4],
            [[0, 1, 1, 0, 0, 1, 0, 0, 1], [0, 1, 1, 0, 0, 0, 0, 0, 0]])

    def test_refused_questions_change_nothing(self):
        refused = [find(0, 9, 9, 1), find(5, 0, 0, 1), word(0, 99, 1), word(0, 0, 9), table(0, 4), agree(4, 0)]
        self.assertEqual(
            answered(*TWO, *refused, find(0, 0, 1, 1), table(0, 1), agree(0, 1))[6:],
            [[-6], [-2], [-6], [-2], [-2], [-2], [0, 2, 1, 1, 0, 0, 1, 0, 1], [2, 1, 2, 2, 2], [5, 4]])


if __name__ == "__main__":
    unittest.main()
