"""The interface: how calls are handed in, how answers are given back, and that nothing is kept."""

import contextlib
import io
import unittest

import seatshare.house
from house_calls import split_answers
from seatshare.house import answers


class ReadOnlyList(list):
    """A list that fails the test at the moment something tries to change it."""

    def refuse(self, *arguments, **named):
        raise AssertionError("the handed-in list was changed")

    append = extend = insert = pop = remove = clear = sort = reverse = refuse
    __setitem__ = __delitem__ = __iadd__ = __imul__ = refuse


def hundred_calls():
    """100 calls of begin, votes and least, with the one number that each of them answers."""
    calls = [0, 64]
    expected = [0]
    for k in range(33):
        calls += [1, 2 * k, k * k]
        expected.append(0 if 2 * k < 64 else -1)
        calls += [2, 50000 * k]
        expected.append(0 if k <= 20 else -1)
        # Not a size: the 64 parties stay.
        calls += [0, 65 + k]
        expected.append(-1)
    return calls, expected


def mixed_calls():
    """100 calls of all six kinds, with the numbers that each of them answers."""
    calls = [0, 1, 0, 65]
    expected = [[0], [-1]]
    for k in range(14):
        calls += [0, 3]
        expected.append([0])
        calls += [1, 0, 2 * k + 2, 1, 2, k + 1, 2, 333333]
        expected += [[0], [0], [0]]
        # Twice as many votes for the first as for the last, and none between.
        calls += [3, 0, 3, 3]
        expected.append([0, 2, 0, 1])
        calls += [4, 1, 3, 3, 2, k, 1]
        expected.append([0])
        calls += [5, 3 - k % 4]
        expected.append([[-1], [1], [0], [1]][k % 4])
    return calls, expected


class AnswersTest(unittest.TestCase):
    def test_how_many_numbers_then_these_for_each_call_in_order(self):
        calls = [0, 2, 1, 0, 5, 1, 2, 5, 2, 1000001, 2, 1000000, 0, 65, 0, 1, 1, 1, 5]
        self.assertEqual(answers(calls), [1, 0, 1, 0, 1, -1, 1, -1, 1, 0, 1, -1, 1, 0, 1, -1])

    def test_one_call(self):
        self.assertEqual(answers([0, 1]), [1, 0])

    def test_arguments_that_look_like_call_numbers(self):
        self.assertEqual(answers([0, 2, 1, 1, 1, 1, 2, 0, 2, 2, 2, 0, 0, 0]), [1, 0, 1, 0, 1, -1, 1, 0, 1, 0, 1, -1])

    def test_a_hundred_calls(self):
        calls, expected = hundred_calls()
        self.assertEqual(len(expected), 100)
        given = answers(calls)
        self.assertEqual(given[0::2], [1] * 100)
        self.assertEqual(given[1::2], expected)

    def test_a_hundred_calls_of_all_six_kinds(self):
        calls, expected = mixed_calls()
        self.assertEqual(len(expected), 100)
        self.assertEqual(split_answers(answers(calls)), expected)

    def test_how_many_numbers_are_answered_of_each_call(self):
        calls = [0, 3, 1, 0, 5, 2, 0, 3, 0, 2, 3, 3, 0, 2, 4, 4, 0, 3, 3, 0, 0, 0, 4, 0, 2, 0, 5, 0, 5, 9]
        given = [1, 0, 1, 0, 1, 0, 4, 0, 2, 0, 0, 1, -1, 1, 0, 1, -1, 1, 1, 1, -1]
        self.assertEqual(answers(calls), given)

    def test_after_a_later_begin_with_another_size(self):
        calls = [0, 2, 1, 0, 6, 1, 1, 4, 3, 0, 5, 2, 4, 0, 2, 2, 3, 2, 5, 1]
        expected = [[0], [0], [0], [0, 3, 2], [0], [1]]
        # Three parties without votes: the count is 3 now, and none passes.
        calls += [0, 3, 5, 1, 3, 0, 5, 2, 3, 0, 5, 3, 3, 0, 0, 3, 4, 0, 2, 0, 4, 0, 3, 3, 0, 0, 0]
        expected += [[0], [0], [-1], [-1], [0, 0, 0, 0], [-1], [-1]]
        calls += [1, 2, 1, 3, 2, 5, 3, 4, 2, 3, 3, 0, 0, 9, 5, 2]
        expected += [[0], [0, 0, 0, 5], [2], [1]]
        # One party.
        calls += [0, 1, 5, 2, 1, 0, 8, 3, 3, 7, 1, 4, 1, 1, 1, 7]
        expected += [[0], [-1], [0], [0, 7], [0]]
        self.assertEqual(split_answers(answers(calls)), expected)

    def test_a_later_begin_sets_the_threshold_to_0(self):
        calls = [0, 2, 2, 1000000, 1, 0, 1, 1, 1, 9, 5, 1, 3, 0, 1, 2, 0, 2, 1, 0, 1, 1, 1, 9, 5, 1, 3, 0, 1, 2]
        expected = [[0], [0], [0], [0], [0], [-1], [0], [0], [0], [1], [0, 0, 1]]
        self.assertEqual(split_answers(answers(calls)), expected)

    def test_after_a_refused_begin_all_is_as_it_was(self):
        asked = [5, 0, 5, 1, 5, 2, 3, 1, 9, 3, 4, 2, 3, 3, 0, 4, 4]
        found = [[0], [1], [1], [0, 0, 5, 4], [1]]
        for n in (0, -1, 65, 2147483647, -2147483648):
            calls = [0, 3, 1, 0, 1, 1, 1, 50, 1, 2, 49, 2, 10001] + asked + [0, n] + asked
            expected = [[0]] * 5 + found + [[-1]] + found
            self.assertEqual(split_answers(answers(calls)), expected, n)

    def test_refused_votes_and_least_change_nothing_that_is_answered(self):
        asked = [3, 0, 10, 2, 4, 0, 2, 2, 7, 2, 5, 1]
        found = [[0, 7, 3], [1], [1]]
        calls = [0, 2, 1, 0, 70, 1, 1, 30, 2, 300000] + asked
        expected = [[0]] * 4 + found
        for refused in ([1, 2, 5], [1, -1, 5], [1, 0, 2 ** 57], [1, 1, 2 ** 64 - 1], [2, 1000001], [2, 4294967295]):
            calls += refused + asked
            expected += [[-1]] + found
        self.assertEqual(split_answers(answers(calls)), expected)

    def test_votes_are_set_and_not_added_to(self):
        calls = [0, 2, 1, 0, 50, 1, 1, 30, 1, 0, 10, 3, 3, 4, 2]
        self.assertEqual(split_answers(answers(calls))[-1], [0, 1, 3])

    def test_share_next_and_passes_change_nothing(self):
        asked = [3, 0, 8, 4, 3, 2, 8, 4, 3, 3, 8, 4, 4, 1, 4, 4, 1, 1, 0, 0, 5, 0, 5, 3, 3, 7, 8, 4, 4, 3, 4, 4]
        asked += [0, 0, 0, 0, 5, 4]
        calls = [0, 4, 1, 0, 100, 1, 1, 80, 1, 2, 30, 1, 3, 20, 2, 80000] + asked * 3
        found = split_answers(answers(calls))
        shared = [[0, 4, 3, 1, 0], [0, 3, 3, 1, 1], [0, 3, 3, 1, 1]]
        self.assertEqual(found[6:15], shared + [[0], [1], [1], [-1], [-1], [-1]])
        self.assertEqual(found[15:24], found[6:15])
        self.assertEqual(found[24:], found[6:15])

    def test_gives_back_a_list_of_whole_numbers(self):
        for calls in (hundred_calls()[0], mixed_calls()[0]):
            given = answers(calls)
            self.assertIs(type(given), list)
            for number in given:
                self.assertIs(type(number), int)

    def test_what_is_handed_in_is_not_changed(self):
        for calls in (hundred_calls()[0], mixed_calls()[0]):
            before = list(calls)
            answers(calls)
            self.assertEqual(calls, before)

    def test_what_is_handed_in_is_not_changed_for_a_while_either(self):
        calls, expected = mixed_calls()
        self.assertEqual(split_answers(answers(ReadOnlyList(calls))), expected)

    def test_a_second_time_answers_as_the_first(self):
        calls = mixed_calls()[0]
        self.assertEqual(answers(calls), answers(calls))

    def test_nothing_is_kept_from_one_time_to_the_next(self):
        small = [0, 1, 1, 1, 5]
        first = answers(small)
        self.assertEqual(first, [1, 0, 1, -1])
        answers([0, 64, 1, 1, 5, 2, 7])
        self.assertEqual(answers(small), first)

    def test_votes_and_seats_are_not_kept_either(self):
        bare = [0, 2, 5, 0, 3, 0, 1, 2, 4, 0, 2, 2, 0, 0]
        first = answers(bare)
        self.assertEqual(first, [1, 0, 1, 0, 1, -1, 1, -1])
        answers([0, 2, 1, 0, 5, 3, 0, 9, 2, 4, 0, 2, 2, 3, 3, 5, 0])
        self.assertEqual(answers(bare), first)

    def test_what_was_given_back_is_the_callers_own(self):
        first = answers([0, 1])
        first.append(9)
        self.assertEqual(answers([0, 1]), [1, 0])

    def test_a_list_of_its_own_is_given_back(self):
        calls = [0, 1]
        self.assertIsNot(answers(calls), calls)

    def test_prints_nothing(self):
        printed = io.StringIO()
        with contextlib.redirect_stdout(printed), contextlib.redirect_stderr(printed):
            answers(mixed_calls()[0])
        self.assertEqual(printed.getvalue(), "")

    def test_the_argument_is_called_calls(self):
        self.assertEqual(seatshare.house.answers(calls=[0, 1]), [1, 0])


if __name__ == "__main__":
    unittest.main()
