"""The way: the cheapest, and of several the first; and what it promises of the places that are found by it."""

import itertools
import random
import unittest

from tests import reference
from tests.writing import answered, costs, edition, find, last, lines, pages, table, word

# Later than the page of any word.
TOO_LATE = 80


def partners(first, second, told, back=False):
    """Of each word its partner's number or None: with a page for each word, one table tells them all."""
    calls = [costs(*told)]
    for k, words in enumerate((first, second)):
        ones = [1] * len(words)
        calls += [edition(words), lines(k, ones), pages(k, ones)]
    answer = last(*calls, table(1, 0) if back else table(0, 1))
    return [page - 1 if page else None for page in answer[1::2]]


def partners_word_by_word(first, second, told, k, m):
    """The same from the call word, each edition being one line."""
    found = []
    for start in range(0, 80, 50):
        asked = [word(k, number, m) for number in range(start, min(start + 50, 80))]
        found += answered(costs(*told), edition(first), edition(second), *asked)[3:]
    return [answer[5] if answer[0] == 0 else None for answer in found if answer != [-6]]


def pairs(first, second, told):
    return [(i, j) for i, j in enumerate(partners(first, second, told)) if j is not None]


def cost(paired, first, second, told):
    other, out, into = told
    unlike = sum(first[i] != second[j] for i, j in paired)
    return other * unlike + out * (len(first) - len(paired)) + into * (len(second) - len(paired))


def rows(letters, longest):
    for size in range(1, longest + 1):
        yield from map(list, itertools.product(letters, repeat=size))


def long_ones():
    """Editions of 80 words: alike, changed in places, shifted, turned round, made of few words and of many."""
    source = random.Random(80)
    many = [source.randrange(1, 100000) for place in range(80)]
    few = [source.randrange(1, 4) for place in range(80)]
    others = [source.randrange(1, 4) for place in range(80)]
    changed = [99999 if place % 7 == 3 else number for place, number in enumerate(many)]
    return [(many, many), (many, changed), (many, many[5:] + many[:5]), (many, many[::-1]), (few, others),
            (others, few), (few, few[1:] + [9]), ([1] * 80, [2] * 80), ([1, 2] * 40, [2, 1] * 40)]


class SeveralWaysTest(unittest.TestCase):
    def test_a_pair_rather_than_out_and_in(self):
        self.assertEqual(pairs([1], [2], (4, 2, 2)), [(0, 0)])
        self.assertEqual(pairs([1], [2], (5, 2, 2)), [])
        self.assertEqual(pairs([1, 2], [3, 4], (4, 1, 3)), [(0, 0), (1, 1)])

    def test_a_pair_early_rather_than_late(self):
        self.assertEqual(pairs([1, 1], [1], (2, 2, 2)), [(0, 0)])
        self.assertEqual(pairs([1], [1, 1], (2, 2, 2)), [(0, 0)])
        self.assertEqual(pairs([1, 2], [3], (2, 2, 2)), [(0, 0)])
        self.assertEqual(pairs([3], [1, 2], (2, 2, 2)), [(0, 0)])

    # Unlike words at first, though the same word comes next at no greater cost.
    def test_an_unlike_pair_rather_than_a_like_one_later(self):
        self.assertEqual(pairs([1, 2], [2, 3], (2, 2, 2)), [(0, 0), (1, 1)])

    def test_left_out_rather_than_put_in(self):
        self.assertEqual(pairs([1, 2], [2, 1], (5, 1, 1)), [(1, 0)])
        self.assertEqual(pairs([2, 1], [1, 2], (5, 1, 1)), [(1, 0)])
        self.assertEqual(pairs([1, 2, 3], [3, 2, 1], (9, 3, 1)), [(2, 0)])

    def test_the_cheapest_ahead_of_a_pair_at_first(self):
        self.assertEqual(pairs([1, 2], [2], (2, 2, 2)), [(1, 0)])
        self.assertEqual(pairs([2], [1, 2], (2, 2, 2)), [(0, 1)])
        self.assertEqual(pairs([1, 2, 3], [2, 3, 4], (2, 1, 2)), [(1, 0), (2, 1)])

    # The way from the later edition to the earlier one would pair the 1s.
    def test_from_the_edition_told_earlier_also_back(self):
        self.assertEqual(partners([1, 2], [2, 1], (5, 1, 1)), [None, 0])
        self.assertEqual(partners([1, 2], [2, 1], (5, 1, 1), back=True), [1, None])


class CostsTest(unittest.TestCase):
    def test_up_to_100(self):
        self.assertEqual(pairs([1], [2], (100, 50, 50)), [(0, 0)])
        self.assertEqual(pairs([1], [2], (100, 50, 49)), [])
        self.assertEqual(pairs([1], [2], (100, 49, 50)), [])
        self.assertEqual(pairs([1], [2], (100, 100, 100)), [(0, 0)])
        self.assertEqual(pairs([1], [2], (100, 1, 100)), [(0, 0)])
        self.assertEqual(pairs([1], [2], (100, 100, 1)), [(0, 0)])

    def test_at_first_2_each(self):
        two = [edition([1, 5, 6]), edition([2, 5, 6])]
        self.assertEqual(last(*two, word(0, 0, 1)), [0, 1, 0, 0, 0, 0, 0, 0, 0])
        # Two unlike pairs cost as much as one left out and one put in; three cost more.
        self.assertEqual(last(edition([1, 2]), edition([2, 3]), word(0, 0, 1)), [0, 1, 0, 0, 0, 0, 0, 0, 0])
        self.assertEqual(last(edition([1, 2, 3]), edition([2, 3, 4]), word(0, 0, 1)), [1, 0, 0, 0])

    def test_other_is_weighed_against_out_and_into(self):
        first, second = [1, 2, 3], [2, 3, 4]
        self.assertEqual(pairs(first, second, (1, 1, 1)), [(1, 0), (2, 1)])
        self.assertEqual(pairs(first, second, (1, 1, 2)), [(0, 0), (1, 1), (2, 2)])
        self.assertEqual(pairs(first, second, (1, 2, 1)), [(0, 0), (1, 1), (2, 2)])
        self.assertEqual(pairs(first, second, (33, 50, 50)), [(0, 0), (1, 1), (2, 2)])
        self.assertEqual(pairs(first, second, (34, 50, 51)), [(1, 0), (2, 1)])
        self.assertEqual(pairs(first, second, (34, 51, 51)), [(0, 0), (1, 1), (2, 2)])


class AgainstEveryWayTest(unittest.TestCase):
    def test_short_editions(self):
        editions = list(rows((1, 2), 3)) + [[1, 2, 3], [3, 1], [2, 3, 1, 2], [3, 3, 1, 1]]
        for told in ((2, 2, 2), (1, 1, 1), (5, 2, 2), (4, 1, 3), (100, 1, 100), (3, 100, 1)):
            for first, second in itertools.product(editions, repeat=2):
                least, steps = reference.way_among_all(first, second, told)
                found = pairs(first, second, told)
                self.assertEqual(found, reference.pairs_of(steps), (first, second, told))
                self.assertEqual(cost(found, first, second, told), least, (first, second, told))

    def test_the_reference_for_long_ones_does_likewise(self):
        for first, second in itertools.product(list(rows((1, 2), 3)) + [[2, 3, 1, 2, 1]], repeat=2):
            for told in ((2, 2, 2), (5, 2, 2), (1, 3, 2)):
                self.assertEqual(reference.way(first, second, told), reference.way_among_all(first, second, told))


class LongEditionsTest(unittest.TestCase):
    def test_80_words_each(self):
        for told in ((2, 2, 2), (1, 1, 1), (100, 50, 50), (100, 1, 99), (100, 1, 1), (7, 3, 5)):
            for number, (first, second) in enumerate(long_ones()):
                least, steps = reference.way(first, second, told)
                found = pairs(first, second, told)
                self.assertEqual(found, reference.pairs_of(steps), (number, told))
                self.assertEqual(cost(found, first, second, told), least, (number, told))

    def test_80_words_and_1(self):
        for place in (0, 1, 40, 79):
            longer = [5] * 80
            longer[place] = 6
            self.assertEqual(pairs(longer, [6], (2, 2, 2)), [(place, 0)])
            self.assertEqual(pairs([6], longer, (2, 2, 2)), [(0, place)])
        self.assertEqual(pairs([5] * 80, [6], (2, 2, 2)), [(0, 0)])
        self.assertEqual(pairs([6], [5] * 80, (2, 2, 2)), [(0, 0)])


class PromisedTest(unittest.TestCase):
    def test_there_and_back_to_the_same_word(self):
        for first, second in itertools.chain(long_ones(), itertools.product(rows((1, 2), 3), repeat=2)):
            for told in ((2, 2, 2), (5, 1, 1)):
                there = partners_word_by_word(first, second, told, 0, 1)
                back = partners_word_by_word(first, second, told, 1, 0)
                self.assertEqual(there, partners(first, second, told))
                self.assertEqual(back, partners(first, second, told, back=True))
                for here, partner in enumerate(there):
                    if partner is not None:
                        self.assertEqual(back[partner], here)
                self.assertEqual(len([p for p in there if p is not None]), len([p for p in back if p is not None]))

    def test_a_later_line_is_never_found_earlier(self):
        sizes = [1, 2, 3, 4, 1, 1, 8] * 4
        for first, second in long_ones():
            two = [costs(5, 2, 2), edition(first), lines(0, sizes), edition(second), lines(1, sizes), pages(1, [4] * 7)]
            for k, m in ((0, 1), (1, 0)):
                asked = [find(k, n // 4 if k else 0, n % 4 if k else n, m) for n in range(28)]
                ahead = [0, 0, 0]
                for answer in answered(*two, *asked)[6:]:
                    if answer[0] == 0:
                        self.assertLessEqual(ahead, answer[3:6])
                        self.assertLessEqual(answer[3:6], answer[6:9])
                        ahead = answer[6:9]
                    else:
                        # Behind the last word is later than any word.
                        start = answer[1:] or [TOO_LATE]
                        self.assertLessEqual(ahead, start)
                        ahead = start


if __name__ == "__main__":
    unittest.main()
