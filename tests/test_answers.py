"""The interface: how calls are handed in, how answers are given back, and that nothing is kept."""

import contextlib
import io
import unittest

import seatshare.house
from seatshare.house import answers


class ReadOnlyList(list):
    """A list that fails the test at the moment something tries to change it."""

    def refuse(self, *arguments, **named):
        raise AssertionError("the handed-in list was changed")

    append = extend = insert = pop = remove = clear = sort = reverse = refuse
    __setitem__ = __delitem__ = __iadd__ = __imul__ = refuse


def hundred_calls():
    """100 calls of all three kinds, with what each of them answers."""
    calls = [0, 64]
    expected = [0]
    for k in range(33):
        calls += [1, 2 * k, k * k]
        expected.append(0 if 2 * k < 64 else -1)
        calls += [2, 50000 * k]
        expected.append(0 if k <= 20 else -1)
        # Not a size: the 64 parties stay.
        calls += [0, 65 + k]
        expected.append(-1)
    return calls, expected


class AnswersTest(unittest.TestCase):
    def test_how_many_numbers_then_these_for_each_call_in_order(self):
        calls = [0, 2, 1, 0, 5, 1, 2, 5, 2, 1000001, 2, 1000000, 0, 65, 0, 1, 1, 1, 5]
        self.assertEqual(answers(calls), [1, 0, 1, 0, 1, -1, 1, -1, 1, 0, 1, -1, 1, 0, 1, -1])

    def test_one_call(self):
        self.assertEqual(answers([0, 1]), [1, 0])

    def test_arguments_that_look_like_call_numbers(self):
        self.assertEqual(answers([0, 2, 1, 1, 1, 1, 2, 0, 2, 2, 2, 0, 0, 0]), [1, 0, 1, 0, 1, -1, 1, 0, 1, 0, 1, -1])

    def test_a_hundred_calls(self):
        calls, expected = hundred_calls()
        self.assertEqual(len(expected), 100)
        given = answers(calls)
        self.assertEqual(given[0::2], [1] * 100)
        self.assertEqual(given[1::2], expected)

    def test_gives_back_a_list_of_whole_numbers(self):
        given = answers(hundred_calls()[0])
        self.assertIs(type(given), list)
        for number in given:
            self.assertIs(type(number), int)

    def test_what_is_handed_in_is_not_changed(self):
        calls = hundred_calls()[0]
        before = list(calls)
        answers(calls)
        self.assertEqual(calls, before)

    def test_what_is_handed_in_is_not_changed_for_a_while_either(self):
        calls, expected = hundred_calls()
        self.assertEqual(answers(ReadOnlyList(calls))[1::2], expected)

    def test_a_second_time_answers_as_the_first(self):
        calls = hundred_calls()[0]
        self.assertEqual(answers(calls), answers(calls))

    def test_nothing_is_kept_from_one_time_to_the_next(self):
        small = [0, 1, 1, 1, 5]
        first = answers(small)
        self.assertEqual(first, [1, 0, 1, -1])
        answers([0, 64, 1, 1, 5, 2, 7])
        self.assertEqual(answers(small), first)

    def test_what_was_given_back_is_the_callers_own(self):
        first = answers([0, 1])
        first.append(9)
        self.assertEqual(answers([0, 1]), [1, 0])

    def test_a_list_of_its_own_is_given_back(self):
        calls = [0, 1]
        self.assertIsNot(answers(calls), calls)

    def test_prints_nothing(self):
        printed = io.StringIO()
        with contextlib.redirect_stdout(printed), contextlib.redirect_stderr(printed):
            answers(hundred_calls()[0])
        self.assertEqual(printed.getvalue(), "")

    def test_the_argument_is_called_calls(self):
        self.assertEqual(seatshare.house.answers(calls=[0, 1]), [1, 0])


if __name__ == "__main__":
    unittest.main()
