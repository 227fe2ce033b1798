"""The five calls, through the interface alone."""

import unittest

from tests.writing import TOP, begins, costs, edition, firsts, lines, pages


class BeginsTest(unittest.TestCase):
    def test_answers_nought(self):
        self.assertEqual(firsts(begins()), [0])
        self.assertEqual(firsts(begins(), begins()), [0, 0])

    def test_takes_the_editions_away(self):
        self.assertEqual(
            firsts(edition([7]), edition([8]), begins(), lines(0, [1]), pages(1, [1])),
            [0, 1, 0, -2, -2])

    def test_numbers_from_nought_anew(self):
        four = [edition([n]) for n in (1, 2, 3, 4)]
        self.assertEqual(
            firsts(*four, edition([5]), begins(), *four, edition([5])),
            [0, 1, 2, 3, -5, 0, 0, 1, 2, 3, -5])

    def test_lines_told_before_are_gone(self):
        self.assertEqual(
            firsts(edition([7, 8]), lines(0, [1, 1]), begins(), edition([7, 8]), pages(0, [1, 1]), pages(0, [1])),
            [0, 2, 0, 0, -1, 1])


class EditionTest(unittest.TestCase):
    def test_numbers_in_order(self):
        self.assertEqual(firsts(edition([5, 6, 5]), edition([5]), edition([9, 9]), edition([5, 6, 5])), [0, 1, 2, 3])

    def test_how_many_words(self):
        for size in (1, 2, 79, 80):
            self.assertEqual(firsts(edition([3] * size)), [0], size)
        for size in (0, 81, 82, 119, 120):
            self.assertEqual(firsts(edition([3] * size)), [-1], size)

    def test_which_words(self):
        for word in (1, 2, 99998, 99999):
            self.assertEqual(firsts(edition([word])), [0], word)
        for word in (0, 100000, 4294967294, TOP):
            self.assertEqual(firsts(edition([word])), [-1], word)

    def test_a_wrong_word_at_each_place(self):
        for wrong in (0, 100000, TOP):
            for place in (0, 40, 79):
                words = [11] * 80
                words[place] = wrong
                self.assertEqual(firsts(edition(words)), [-1], (wrong, place))

    def test_a_fifth_is_refused(self):
        four = [edition([n]) for n in (1, 2, 3, 4)]
        self.assertEqual(firsts(*four, edition([5]), edition([5])), [0, 1, 2, 3, -5, -5])

    def test_wrong_words_count_ahead_of_no_room(self):
        four = [edition([n]) for n in (1, 2, 3, 4)]
        for words in ([], [0], [100000], [TOP], [1] * 81, [1] * 120, [0] * 120):
            self.assertEqual(firsts(*four, edition(words)), [0, 1, 2, 3, -1], words)

    def test_a_refused_one_takes_no_number(self):
        self.assertEqual(
            firsts(edition([]), edition([0]), edition([1]), edition([1] * 81), lines(1, [1]), edition([2, 2])),
            [-1, -1, 0, -1, -2, 1])

    def test_a_refused_fifth_leaves_the_four(self):
        told = [edition([9] * size) for size in (1, 2, 3, 4)]
        self.assertEqual(
            firsts(*told, edition([9] * 5), *[lines(k, [1] * (k + 1)) for k in range(4)], lines(4, [5])),
            [0, 1, 2, 3, -5, 1, 2, 3, 4, -2])

    def test_has_one_line_and_one_page_at_first(self):
        for size in (1, 2, 80):
            self.assertEqual(firsts(edition([4] * size), pages(0, [1])), [0, 1])
            self.assertEqual(firsts(edition([4] * size), pages(0, [2])), [0, -1])
            self.assertEqual(firsts(edition([4] * size), pages(0, [1, 1])), [0, -1])


class LinesTest(unittest.TestCase):
    def test_answers_how_many(self):
        for counts in ([6], [1, 5], [5, 1], [2, 2, 2], [1, 1, 1, 1, 1, 1]):
            self.assertEqual(firsts(edition([4] * 6), lines(0, counts)), [0, len(counts)], counts)

    def test_of_the_longest_edition(self):
        whole = edition([4] * 80)
        self.assertEqual(firsts(whole, lines(0, [80]), lines(0, [1] * 80), lines(0, [79, 1])), [0, 1, 80, 2])
        self.assertEqual(firsts(whole, lines(0, [1] * 79), lines(0, [1] * 81), lines(0, [1] * 120)), [0, -1, -1, -1])

    def test_wrong_counts(self):
        wrong = ([], [0], [5], [7], [3, 2], [3, 4], [0, 6], [6, 0], [3, 0, 3], [0] * 120,
                 [TOP], [6, TOP], [TOP, 7], [TOP] * 120, [4294967290, 12])
        for counts in wrong:
            self.assertEqual(firsts(edition([4] * 6), lines(0, counts)), [0, -1], counts)

    def test_no_such_edition(self):
        self.assertEqual(firsts(lines(0, [1])), [-2])
        for k in (1, 2, 3, 4, TOP):
            self.assertEqual(firsts(edition([4]), lines(k, [1])), [0, -2], k)

    def test_no_such_edition_counts_ahead_of_wrong_counts(self):
        for counts in ([], [0], [5], [TOP] * 120):
            self.assertEqual(firsts(edition([4]), lines(1, counts)), [0, -2], counts)

    def test_each_edition_has_its_own(self):
        self.assertEqual(
            firsts(edition([4] * 3), edition([4] * 3), lines(1, [1, 1, 1]), pages(0, [3]), pages(0, [1]),
                   pages(1, [1]), pages(1, [1, 2])),
            [0, 1, 3, -1, 1, -1, 2])

    def test_told_anew(self):
        self.assertEqual(
            firsts(edition([4] * 4), lines(0, [1, 1, 1, 1]), pages(0, [2, 2]), lines(0, [2, 2]),
                   pages(0, [2, 2]), pages(0, [1, 1])),
            [0, 4, 2, 2, -1, 2])

    def test_a_refusal_leaves_the_lines(self):
        for counts in ([], [5], [4, 0], [1, 1, 1, 2], [TOP]):
            self.assertEqual(
                firsts(edition([4] * 4), lines(0, [1, 3]), lines(0, counts), pages(0, [1, 1]), pages(0, [1])),
                [0, 2, -1, 2, -1], counts)


class PagesTest(unittest.TestCase):
    def test_answers_how_many(self):
        for counts in ([5], [1, 4], [4, 1], [2, 1, 2], [1, 1, 1, 1, 1]):
            self.assertEqual(
                firsts(edition([4] * 9), lines(0, [1, 2, 3, 2, 1]), pages(0, counts)), [0, 5, len(counts)], counts)

    def test_of_the_longest_edition(self):
        told = [edition([4] * 80), lines(0, [1] * 80)]
        self.assertEqual(firsts(*told, pages(0, [80]), pages(0, [1] * 80), pages(0, [1, 79])), [0, 80, 1, 80, 2])
        self.assertEqual(firsts(*told, pages(0, [1] * 79), pages(0, [1] * 81), pages(0, [1] * 120)),
                         [0, 80, -1, -1, -1])

    def test_wrong_counts(self):
        # 9 are the words, not the lines.
        wrong = ([], [0], [4], [6], [9], [2, 2], [3, 3], [0, 5], [5, 0], [2, 0, 3], [0] * 120,
                 [TOP], [5, TOP], [TOP, 6], [TOP] * 120, [4294967290, 11])
        for counts in wrong:
            self.assertEqual(
                firsts(edition([4] * 9), lines(0, [1, 2, 3, 2, 1]), pages(0, counts)), [0, 5, -1], counts)

    def test_no_such_edition(self):
        self.assertEqual(firsts(pages(0, [1])), [-2])
        for k in (1, 2, 3, 4, TOP):
            self.assertEqual(firsts(edition([4]), pages(k, [1])), [0, -2], k)

    def test_no_such_edition_counts_ahead_of_wrong_counts(self):
        for counts in ([], [0], [5], [TOP] * 120):
            self.assertEqual(firsts(edition([4]), pages(1, counts)), [0, -2], counts)

    def test_told_anew_go_by_lines(self):
        self.assertEqual(
            firsts(edition([4] * 4), lines(0, [1, 1, 2]), pages(0, [1, 2]), pages(0, [2, 1]), pages(0, [3]),
                   pages(0, [1, 1])),
            [0, 3, 2, 2, 1, -1])


class CostsTest(unittest.TestCase):
    def test_from_1_to_100(self):
        for cost in (1, 2, 50, 99, 100):
            for told in ((cost, 2, 2), (2, cost, 2), (2, 2, cost), (cost, cost, cost)):
                self.assertEqual(firsts(costs(*told)), [0], told)

    def test_others_are_refused(self):
        for cost in (0, 101, 102, TOP):
            for told in ((cost, 2, 2), (2, cost, 2), (2, 2, cost), (cost, cost, cost), (0, 101, cost)):
                self.assertEqual(firsts(costs(*told)), [-1], told)

    def test_leave_the_editions(self):
        self.assertEqual(
            firsts(edition([4, 4]), lines(0, [1, 1]), costs(1, 100, 7), pages(0, [1, 1]), costs(0, 1, 1),
                   pages(0, [2]), edition([5])),
            [0, 2, 0, 2, -1, 1, 1])


if __name__ == "__main__":
    unittest.main()
