"""Points 4 and 7: which party gets the next seat, and what next_party answers."""

import itertools
import unittest

from house_calls import (
    HIGHEST, LOWEST, TOP, house_of, last_answer, made_up_numbers, next_call, next_party, passing, rank, share_call,
    split_answers)
from seatshare.house import House, answers

MOST = 2 ** 57 - 1
NO_METHODS = (3, 4, 5, 255, -1, -2, -3, LOWEST, HIGHEST)


def expected_next(votes, method, have, parts=0):
    """Point 7, for a method from 0 to 2 and numbers of at most 65535."""
    among = passing(votes, parts)
    if not among:
        return [-1]
    return [max(among, key=lambda party: rank(method, votes, party, have[party]))]


def pell_numbers():
    """Pairs p, q with p * p - 3 * q * q = 1, and pairs with -2, each with p near 2^56."""
    pairs = []
    for p, q in ((2, 1), (1, 1)):
        while 2 * p + 3 * q < 2 ** 57:
            p, q = 2 * p + 3 * q, p + 2 * q
        pairs.append((p, q))
    return pairs


class NextQuotientTest(unittest.TestCase):
    def test_known_houses(self):
        self.assertEqual(next_party([100, 80, 30], 0, [1, 1, 0]), [0])
        self.assertEqual(next_party([100, 80, 30], 0, [2, 1, 0]), [1])
        self.assertEqual(next_party([100, 80, 30], 0, [3, 2, 0]), [2])
        self.assertEqual(next_party([100, 80, 31], 1, [1, 1, 0]), [0])
        self.assertEqual(next_party([100, 80, 31], 1, [2, 1, 0]), [2])
        self.assertEqual(next_party([100, 80, 30], 2, [1, 1, 0]), [2])
        self.assertEqual(next_party([100, 80, 30], 2, [1, 1, 1]), [0])
        self.assertEqual(next_party([100, 80, 30], 2, [2, 1, 1]), [1])

    def test_have_need_not_be_what_share_would_give(self):
        for method in (0, 1, 2):
            self.assertEqual(next_party([100, 1], method, [65535, 1]), [1], method)
            self.assertEqual(next_party([1, 100], method, [9, 3]), [1], method)
            self.assertEqual(next_party([1, 100], method, [0, 65535]), [0], method)

    def test_just_equal_quotients_go_to_the_lowest_number(self):
        self.assertEqual(next_party([6, 3], 0, [1, 0]), [0])
        self.assertEqual(next_party([3, 6], 0, [0, 1]), [0])
        self.assertEqual(next_party([9, 3], 1, [1, 0]), [0])
        self.assertEqual(next_party([3, 9], 1, [0, 1]), [0])
        self.assertEqual(next_party([6, 1], 2, [8, 1]), [0])
        self.assertEqual(next_party([1, 6], 2, [1, 8]), [0])
        self.assertEqual(next_party([1, 4, 4, 4], 2, [0, 0, 0, 0]), [1])

    def test_quotients_that_differ_beyond_what_a_float_holds(self):
        third = (2 ** 57 - 2) // 3
        sixth = (2 ** 57 - 2) // 6
        # The greater number is divided by so many times what the lesser one is.
        for method, number, seats, more in ((0, third, 0, 2), (1, third, 0, 1), (2, sixth, 1, 8)):
            self.assertEqual(next_party([number, MOST - 2], method, [seats, more]), [0], method)
            self.assertEqual(next_party([number, MOST - 1], method, [seats, more]), [0], method)
            self.assertEqual(next_party([number, MOST], method, [seats, more]), [1], method)
            self.assertEqual(next_party([MOST - 2, number], method, [more, seats]), [1], method)
            self.assertEqual(next_party([MOST - 1, number], method, [more, seats]), [0], method)
            self.assertEqual(next_party([MOST, number], method, [more, seats]), [0], method)

    def test_roots_that_are_nearly_equal(self):
        above, below = pell_numbers()
        self.assertEqual(above[0] ** 2 - 3 * above[1] ** 2, 1)
        self.assertEqual(below[0] ** 2 - 3 * below[1] ** 2, -2)
        # With 2 seats the divisor is the root of 6, with 1 seat that of 2.
        self.assertEqual(next_party([above[1], above[0]], 2, [1, 2]), [1])
        self.assertEqual(next_party([above[0], above[1]], 2, [2, 1]), [0])
        self.assertEqual(next_party([below[0], below[1]], 2, [2, 1]), [1])
        self.assertEqual(next_party([below[1], below[0]], 2, [1, 2]), [0])

    def test_by_roots_a_party_without_a_seat_comes_first(self):
        self.assertEqual(next_party([1, MOST], 2, [0, 1]), [0])
        self.assertEqual(next_party([MOST, 1], 2, [1, 0]), [1])
        self.assertEqual(next_party([5, 7, 6, 9], 2, [0, 0, 0, 1]), [1])
        self.assertEqual(next_party([MOST - 1, MOST], 2, [0, 0]), [1])

    def test_only_parties_that_pass_are_asked(self):
        for method in (0, 1, 2):
            self.assertEqual(next_party([0, 1], method, [0, 65535]), [1], method)
            self.assertEqual(next_party([0, 0, 3, 0], method, [0, 0, 5, 0]), [2], method)
            self.assertEqual(next_party([20, 80, 1], method, [0, 65535, 0], 200000), [1], method)
            self.assertEqual(next_party([20, 80, 0], method, [0, 65535, 0], 200000), [0], method)

    def test_small_houses_as_fractions_tell(self):
        for votes in itertools.product(range(5), repeat=3):
            for parts in (0, 300000):
                for method in (0, 1, 2):
                    rows = list(itertools.product(range(3), repeat=3))
                    calls = house_of(votes, parts)
                    for have in rows:
                        calls += next_call(method, 3, have)
                    given = split_answers(answers(calls))[-len(rows):]
                    expected = [expected_next(votes, method, have, parts) for have in rows]
                    self.assertEqual(given, expected, (votes, parts, method))

    def test_houses_of_every_size(self):
        numbers = made_up_numbers(3)
        for n in range(1, 65):
            votes = [next(numbers) << 25 | next(numbers) >> 7 for party in range(n)]
            have = [next(numbers) % 65536 for party in range(n)]
            for method in (0, 1, 2):
                for parts in (0, 9000):
                    expected = expected_next(votes, method, have, parts)
                    self.assertEqual(next_party(votes, method, have, parts), expected, (votes, have, method))

    def test_step_by_step_it_gives_what_share_gives(self):
        votes = [340, 0, 281, 17, 160, 280, 58]
        for method in (0, 1, 2):
            have = [0] * 7
            for seats in range(1, 60):
                have[next_party(votes, method, have, 20000)[0]] += 1
                calls = house_of(votes, 20000) + share_call(method, seats, 7)
                self.assertEqual(last_answer(calls), [0] + have, (method, seats))


class NextPartyAnswersTest(unittest.TestCase):
    def test_answers_one_number(self):
        self.assertEqual(answers([0, 2, 1, 1, 4, 4, 0, 2, 2, 0, 0, 4, 0, 3, 0]), [1, 0, 1, 0, 1, 1, 1, -1])

    def test_another_method(self):
        for method in NO_METHODS:
            self.assertEqual(next_party([2, 3], method, [0, 0]), [-1], method)
            self.assertEqual(next_party([2, 3], method, [4, 1]), [-1], method)

    def test_a_count_that_is_not_the_number_of_parties(self):
        for n in (1, 2, 64):
            for count in (0, n - 1, n + 1, 65, TOP):
                for method in (-1, 0, 1, 2, 3):
                    given = last_answer(house_of([4] * n) + next_call(method, count, []))
                    self.assertEqual(given, [-1], (n, count, method))

    def test_after_a_call_without_have_the_next_call_is_read(self):
        calls = [0, 2, 1, 0, 5, 4, 0, 3, 0, 5, 0, 4, 0, 2, 2, 7, 7, 5, 1]
        self.assertEqual(split_answers(answers(calls)), [[0], [0], [-1], [1], [0], [0]])

    def test_no_party_passes(self):
        for method in (0, 1, 2):
            self.assertEqual(next_party([0], method, [0]), [-1], method)
            self.assertEqual(next_party([0, 0, 0], method, [1, 2, 3]), [-1], method)
            self.assertEqual(next_party([1, 1, 1], method, [0, 0, 0], 400000), [-1], method)

    def test_up_to_which_number_of_seats_it_is_taken(self):
        for method in (0, 1, 2):
            self.assertEqual(next_party([3], method, [65535]), [0], method)
            self.assertEqual(next_party([3, 4], method, [65535, 65535]), [1], method)
            for number in (65536, 65537, 131072, TOP):
                self.assertEqual(next_party([3], method, [number]), [-1], (method, number))
                self.assertEqual(next_party([3, 4, 5], method, [number, 0, 0]), [-1], (method, number))
                self.assertEqual(next_party([3, 4, 5], method, [0, number, 0]), [-1], (method, number))
                self.assertEqual(next_party([3, 4, 5], method, [0, 0, number]), [-1], (method, number))

    def test_too_great_a_number_of_a_party_that_does_not_pass(self):
        for method in (0, 1, 2):
            self.assertEqual(next_party([3, 0], method, [0, 65535]), [0], method)
            self.assertEqual(next_party([3, 0], method, [0, 65536]), [-1], method)
            self.assertEqual(next_party([1, 99], method, [65535, 0], 20000), [1], method)
            self.assertEqual(next_party([1, 99], method, [65536, 0], 20000), [-1], method)

    def test_changes_nothing(self):
        house = House()
        house.begin(3)
        house.votes(0, 5)
        house.votes(1, 8)
        house.least(70)
        for method in (0, 1, 2) + NO_METHODS:
            for have in ([0, 0, 0], [3, 9, 65536]):
                before = list(have)
                house.next_party(method, 3, have)
                house.next_party(method, 4, [])
                self.assertEqual((house.party_votes, house.threshold), ([5, 8, 0], 70))
                self.assertEqual(have, before)


if __name__ == "__main__":
    unittest.main()
