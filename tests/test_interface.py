"""How calls are handed in and answers given back."""

import contextlib
import inspect
import io
import unittest

import twoeditions.editions
from tests.writing import TOP, begins, costs, edition, joined, lines, pages
from twoeditions.editions import UnknownCall, answers

MIXED = joined([
    edition([5, 6, 7, 6]), lines(0, [1, 2, 1]), pages(0, [2, 1]), costs(1, 2, 3),
    edition([]), lines(7, [1]), pages(0, [TOP]), costs(0, 0, 0), edition([9] * 80), lines(1, [1] * 80)])
MIXED_ANSWERS = [1, 0, 1, 3, 1, 2, 1, 0, 1, -1, 1, -2, 1, -1, 1, -1, 1, 1, 1, 80]


def forbidden(*args, **kwargs):
    raise AssertionError("the list handed in was changed")


class Untouchable(list):
    """A list that tells at once when it's changed, be it for a while."""

    __setitem__ = __delitem__ = __iadd__ = __imul__ = forbidden
    append = clear = extend = insert = pop = remove = reverse = sort = forbidden


class InterfaceTest(unittest.TestCase):
    def test_name_and_argument(self):
        self.assertEqual(list(inspect.signature(twoeditions.editions.answers).parameters), ["calls"])
        self.assertEqual(twoeditions.editions.answers(calls=[0]), [1, 0])

    def test_as_written_number_by_number(self):
        self.assertEqual(answers([0]), [1, 0])
        self.assertEqual(answers([1, 2, 50, 60]), [1, 0])
        self.assertEqual(answers([1, 0]), [1, -1])
        self.assertEqual(answers([1, 2, 50, 60, 2, 0, 2, 1, 1, 3, 0, 1, 2, 4, 1, 1, 1]), [1, 0, 1, 2, 1, 1, 1, 0])
        self.assertEqual(answers([2, 0, 0, 3, 0, 0, 0]), [1, -2, 1, -2, 1, 0])

    def test_several_behind_one_another(self):
        self.assertEqual(answers(list(MIXED)), MIXED_ANSWERS)

    def test_rows_are_read_whole_when_refused(self):
        rows = joined([edition([0] * 120), lines(3, [0] * 120), pages(TOP, [4] * 120), edition([1])])
        self.assertEqual(answers(rows), [1, -1, 1, -2, 1, -2, 1, 0])

    def test_sixty_calls_of_the_longest_rows(self):
        calls = joined([edition([1] * 120)] + [lines(0, [TOP] * 120)] * 58 + [begins()])
        self.assertEqual(answers(calls), [1, -1] + [1, -2] * 58 + [1, 0])

    def test_kinds_of_what_is_given_back(self):
        given = answers(list(MIXED))
        self.assertIs(type(given), list)
        for number in given:
            self.assertIs(type(number), int)

    def test_what_is_handed_in_is_not_changed(self):
        handed = Untouchable(MIXED)
        self.assertEqual(answers(handed), MIXED_ANSWERS)
        self.assertEqual(handed, MIXED)

    def test_what_is_given_back_is_not_what_was_handed_in(self):
        handed = list(MIXED)
        answers(handed).clear()
        self.assertEqual(handed, MIXED)
        self.assertEqual(answers(handed), MIXED_ANSWERS)

    def test_nothing_is_kept_from_one_time_to_the_next(self):
        handed = list(MIXED)
        four = joined([edition([n]) for n in (1, 2, 3, 4)])
        for time in range(3):
            self.assertEqual(answers(handed), MIXED_ANSWERS, time)
            self.assertEqual(answers(four), [1, 0, 1, 1, 1, 2, 1, 3], time)
            self.assertEqual(answers(lines(0, [1])), [1, -2], time)

    def test_nothing_is_printed(self):
        out, err = io.StringIO(), io.StringIO()
        with contextlib.redirect_stdout(out), contextlib.redirect_stderr(err):
            answers(list(MIXED))
        self.assertEqual((out.getvalue(), err.getvalue()), ("", ""))

    def test_a_number_of_no_call(self):
        for number in (10, TOP):
            with self.assertRaises(UnknownCall):
                answers([number])


if __name__ == "__main__":
    unittest.main()
