"""How calls are handed in and answers given back."""

import contextlib
import inspect
import io
import unittest

import twoeditions.editions
from tests.reference import Model
from tests.writing import (
    TOP, agree, begins, costs, edition, find, joined, lines, pages, table, taken_apart, where, word)
from twoeditions.editions import UnknownCall, answers

MIXED = joined([
    edition([5, 6, 7, 6]), lines(0, [1, 2, 1]), pages(0, [2, 1]), costs(1, 2, 3),
    edition([]), lines(7, [1]), pages(0, [TOP]), costs(0, 0, 0), edition([9] * 80), lines(1, [1] * 80),
    where(0, 3), where(0, 4), find(0, 0, 1, 1), word(1, 79, 0), word(1, 0, 2), table(0, 1), agree(1, 0)])
MIXED_ANSWERS = [
    1, 0, 1, 3, 1, 2, 1, 0, 1, -1, 1, -2, 1, -1, 1, -1, 1, 1, 1, 80,
    4, 0, 1, 0, 0, 1, -6, 9, 0, 2, 0, 0, 1, 0, 0, 2, 0, 1, 1, 1, -2, 5, 2, 1, 1, 1, 1, 2, 4, 0]

# 60 calls: four editions of 80 words, cut up, and each of them asked for in each other one.
SIXTY_CALLS = (
    [edition([(place * step) % 7 + 1 for place in range(80)]) for step in (1, 2, 3, 5)]
    + [lines(0, [1] * 80), pages(0, [1] * 80), lines(1, [40, 40]), pages(1, [1, 1])]
    + [call for k in range(4) for m in range(4) for call in (find(k, 0, 0, m), word(k, 79, m), table(k, m))]
    + [agree(0, 3), agree(3, 0), where(1, 79), costs(5, 2, 2)])
SIXTY = joined(SIXTY_CALLS)


def forbidden(*args, **kwargs):
    raise AssertionError("the list handed in was changed")


class Untouchable(list):
    """A list that tells at once when it's changed, be it for a while."""

    __setitem__ = __delitem__ = __iadd__ = __imul__ = forbidden
    append = clear = extend = insert = pop = remove = reverse = sort = forbidden


class InterfaceTest(unittest.TestCase):
    def test_name_and_argument(self):
        self.assertEqual(list(inspect.signature(twoeditions.editions.answers).parameters), ["calls"])
        self.assertEqual(twoeditions.editions.answers(calls=[0]), [1, 0])

    def test_as_written_number_by_number(self):
        self.assertEqual(answers([0]), [1, 0])
        self.assertEqual(answers([1, 2, 50, 60]), [1, 0])
        self.assertEqual(answers([1, 0]), [1, -1])
        self.assertEqual(answers([1, 2, 50, 60, 2, 0, 2, 1, 1, 3, 0, 1, 2, 4, 1, 1, 1]), [1, 0, 1, 2, 1, 1, 1, 0])
        self.assertEqual(answers([2, 0, 0, 3, 0, 0, 0]), [1, -2, 1, -2, 1, 0])

    def test_questions_as_written_number_by_number(self):
        two = [1, 3, 50, 60, 70, 1, 2, 60, 80]
        told = [1, 0, 1, 1]
        self.assertEqual(answers(two + [5, 0, 2]), told + [4, 0, 0, 0, 2])
        self.assertEqual(answers(two + [6, 0, 0, 0, 1]), told + [9, 0, 2, 1, 0, 0, 0, 0, 0, 1])
        self.assertEqual(answers(two + [7, 0, 2, 1]), told + [9, 0, 1, 0, 0, 0, 1, 0, 0, 1])
        self.assertEqual(answers(two + [7, 0, 0, 1]), told + [4, 1, 0, 0, 0])
        self.assertEqual(answers(two + [8, 0, 1]), told + [3, 1, 1, 1])
        self.assertEqual(answers(two + [9, 0, 1]), told + [2, 2, 1])
        self.assertEqual(answers([1, 1, 50, 1, 2, 50, 60, 7, 1, 1, 0]), told + [1, 1])

    def test_refusals_are_their_number_alone(self):
        self.assertEqual(answers([5, 0, 0, 6, 0, 0, 0, 0, 7, 0, 0, 0, 8, 0, 0, 9, 0, 0]), [1, -2] * 5)
        self.assertEqual(answers([1, 1, 50, 5, 0, 1, 6, 0, 1, 0, 0, 6, 0, 0, 1, 0, 7, 0, 1, 0]), [1, 0] + [1, -6] * 4)

    def test_several_behind_one_another(self):
        self.assertEqual(answers(list(MIXED)), MIXED_ANSWERS)

    def test_rows_are_read_whole_when_refused(self):
        rows = joined([edition([0] * 120), lines(3, [0] * 120), pages(TOP, [4] * 120), edition([1])])
        self.assertEqual(answers(rows), [1, -1, 1, -2, 1, -2, 1, 0])

    def test_sixty_calls_of_the_longest_rows(self):
        calls = joined([edition([1] * 120)] + [lines(0, [TOP] * 120)] * 58 + [begins()])
        self.assertEqual(answers(calls), [1, -1] + [1, -2] * 58 + [1, 0])

    def test_sixty_calls_of_long_editions(self):
        handed = Untouchable(SIXTY)
        given = answers(handed)
        self.assertEqual(handed, SIXTY)
        parts = taken_apart(given)
        self.assertEqual(len(parts), 60)
        model = Model()
        self.assertEqual(parts, [model.answer(call) for call in SIXTY_CALLS])
        self.assertEqual(answers(list(SIXTY)), given)

    def test_kinds_of_what_is_given_back(self):
        for calls in (MIXED, SIXTY):
            given = answers(list(calls))
            self.assertIs(type(given), list)
            for number in given:
                self.assertIs(type(number), int)

    def test_what_is_handed_in_is_not_changed(self):
        handed = Untouchable(MIXED)
        self.assertEqual(answers(handed), MIXED_ANSWERS)
        self.assertEqual(handed, MIXED)

    def test_what_is_given_back_is_not_what_was_handed_in(self):
        handed = list(MIXED)
        answers(handed).clear()
        self.assertEqual(handed, MIXED)
        self.assertEqual(answers(handed), MIXED_ANSWERS)

    def test_nothing_is_kept_from_one_time_to_the_next(self):
        handed = list(MIXED)
        four = joined([edition([n]) for n in (1, 2, 3, 4)])
        for time in range(3):
            self.assertEqual(answers(handed), MIXED_ANSWERS, time)
            self.assertEqual(answers(four), [1, 0, 1, 1, 1, 2, 1, 3], time)
            self.assertEqual(answers(lines(0, [1])), [1, -2], time)

    def test_nothing_is_printed(self):
        out, err = io.StringIO(), io.StringIO()
        with contextlib.redirect_stdout(out), contextlib.redirect_stderr(err):
            answers(list(MIXED))
        self.assertEqual((out.getvalue(), err.getvalue()), ("", ""))

    def test_a_number_of_no_call(self):
        for number in (10, TOP):
            with self.assertRaises(UnknownCall):
                answers([number])


if __name__ == "__main__":
    unittest.main()
