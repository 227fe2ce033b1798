"""Lists of 60 calls of all kinds, held against the plain reference."""

import random
import unittest

from tests.reference import Model
from tests.writing import (
    TOP, agree, answered, begins, costs, edition, find, lines, pages, table, where, word)

LISTS = 150


def parts(source, whole):
    """Some way of cutting a whole into parts, none of them empty."""
    sizes = []
    while whole:
        sizes.append(source.randint(1, min(whole, source.choice((1, 3, 12, 80)))))
        whole -= sizes[-1]
    return sizes


def new_edition(source, model):
    """Words of a few kinds, or an edition told before with words changed, left out and put in."""
    if model.words and source.random() < 0.6:
        words = []
        for number in source.choice(model.words):
            turn = source.random()
            words += [] if turn < 0.1 else [number, 7] if turn < 0.2 else [8] if turn < 0.3 else [number]
        return edition((words or [1])[:80])
    if source.random() < 0.15:
        return edition(source.choice(([], [0], [5, 100000], [1] * 81, [TOP] * 120)))
    kinds = source.choice((1, 3, 99999))
    return edition([source.randint(1, kinds) for place in range(source.choice((1, 2, 6, 25, 80)))])


def telling(source, model):
    k = source.choice((0, 0, 1, 1, 2, 3, 4, TOP))
    turn = source.random()
    if turn < 0.03:
        return begins()
    if turn < 0.3 or not model.words:
        return new_edition(source, model)
    if turn < 0.45:
        return costs(*[source.choice((1, 2, 2, 3, 4, 5, 50, 99, 100, 100 + (turn < 0.32))) for kind in range(3)])
    known = k < len(model.words)
    if turn < 0.75:
        sizes = parts(source, len(model.words[k]) if known else 5)
        make = lines
    else:
        sizes = parts(source, len(model.line_counts[k]) if known else 2)
        make = pages
    if source.random() < 0.1:
        sizes[source.randrange(len(sizes))] += source.choice((1, -1, TOP - 100))
    return make(k, sizes)


def asking(source, model):
    among = list(range(len(model.words))) * 6 + [len(model.words), TOP]
    k, m = source.choice(among), source.choice(among)
    place = (0, 0, 0)
    number = source.choice((0, 1, 5, 80, TOP))
    if k < len(model.words):
        number = source.randint(0, len(model.words[k]) - (source.random() < 0.9))
        place = source.choice(model.places[k])
    shift = source.random() < 0.1
    return source.choice((
        where(k, number), find(k, place[0], place[1] + shift, m), find(k, place[0] + shift, place[1], m),
        word(k, number, m), table(k, m), agree(k, m)))


class MixedTest(unittest.TestCase):
    def test_lists_of_60_calls(self):
        seen = {}
        for seed in range(LISTS):
            source = random.Random(seed)
            model = Model()
            calls, expected = [], []
            for turn in range(60):
                make = telling if turn < 3 or source.random() < 0.35 else asking
                calls.append(make(source, model))
                expected.append(model.answer(calls[-1]))
                seen[calls[-1][0], min(expected[-1][0], 2)] = True
            self.assertEqual(answered(*calls), expected, seed)
        # Each call was answered and was refused in each of its ways, and what was found was a gap or not.
        for kind in ((0, 0), (1, -1), (1, -5), (1, 0), (2, -2), (2, -1), (3, -2), (3, -1), (4, -1), (4, 0), (5, -2),
                     (5, -6), (5, 0), (6, -2), (6, -6), (6, 0), (6, 1), (7, -2), (7, -6), (7, 0), (7, 1), (8, -2),
                     (8, 1), (8, 2), (9, -2), (9, 0), (9, 2)):
            self.assertIn(kind, seen)


if __name__ == "__main__":
    unittest.main()
