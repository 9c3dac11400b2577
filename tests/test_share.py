"""Points 4 to 6: how seats are shared out by each method, and what share answers."""

import itertools
import unittest

from house_calls import (
    HIGHEST, LOWEST, TOP, expected_share, house_of, last_answer, made_up_numbers, passing, rank, share, share_call,
    split_answers)
from seatshare.house import House, answers

MOST = 2 ** 57 - 1
METHODS = (0, 1, 2, 3)
NO_METHODS = (-1, -2, -3, -4, 4, 5, 6, 255, LOWEST, HIGHEST)
CLASSIC = [100000, 80000, 30000, 20000]


class MethodsTest(unittest.TestCase):
    def test_known_houses(self):
        self.assertEqual(share(CLASSIC, 0, 8), [0, 4, 3, 1, 0])
        self.assertEqual(share(CLASSIC, 1, 8), [0, 3, 3, 1, 1])
        self.assertEqual(share(CLASSIC, 2, 8), [0, 3, 3, 1, 1])
        self.assertEqual(share(CLASSIC, 3, 8), [0, 3, 3, 1, 1])

    def test_each_method_is_another(self):
        votes = [600, 276, 99, 15, 10]
        self.assertEqual(share(votes, 0, 9), [0, 6, 2, 1, 0, 0])
        self.assertEqual(share(votes, 1, 9), [0, 5, 3, 1, 0, 0])
        self.assertEqual(share(votes, 2, 9), [0, 4, 2, 1, 1, 1])
        self.assertEqual(share([602, 200, 198], 3, 5), [0, 3, 1, 1])
        self.assertEqual(share([750, 140, 110], 0, 5), [0, 5, 0, 0])
        self.assertEqual(share([750, 140, 110], 3, 5), [0, 4, 1, 0])

    def test_just_equal_quotients_go_to_the_lowest_number(self):
        # 6 / 2 and 3 / 1.
        self.assertEqual(share([6, 3], 0, 2), [0, 2, 0])
        self.assertEqual(share([3, 6], 0, 2), [0, 1, 1])
        # 9 / 3 and 3 / 1.
        self.assertEqual(share([9, 3], 1, 2), [0, 2, 0])
        self.assertEqual(share([3, 9], 1, 2), [0, 1, 1])
        # 6 / root of 72 and 1 / root of 2, when they have 8 seats and 1.
        self.assertEqual(share([6, 1], 2, 10), [0, 9, 1])
        self.assertEqual(share([1, 6], 2, 10), [0, 2, 8])

    def test_equal_parties_get_seats_in_order(self):
        for method in METHODS:
            for seats in range(8):
                expected = [seats // 3 + int(party < seats % 3) for party in range(3)]
                self.assertEqual(share([5, 5, 5], method, seats), [0] + expected, (method, seats))

    def test_roots_first_seats_go_before_any_second_seat(self):
        votes = [MOST, 1, 3, 2]
        self.assertEqual(share(votes, 2, 1), [0, 1, 0, 0, 0])
        self.assertEqual(share(votes, 2, 2), [0, 1, 0, 1, 0])
        self.assertEqual(share(votes, 2, 3), [0, 1, 0, 1, 1])
        self.assertEqual(share(votes, 2, 4), [0, 1, 1, 1, 1])
        self.assertEqual(share(votes, 2, 5), [0, 2, 1, 1, 1])

    def test_roots_first_seats_among_equal_votes_go_to_the_lowest_number(self):
        self.assertEqual(share([4, 7, 7, 4], 2, 1), [0, 0, 1, 0, 0])
        self.assertEqual(share([4, 7, 7, 4], 2, 3), [0, 1, 1, 1, 0])

    def test_roots_first_seats_tell_votes_apart_that_a_float_does_not(self):
        self.assertEqual(share([MOST - 1, MOST], 2, 1), [0, 0, 1])

    def test_roots_do_not_give_a_party_that_does_not_pass_a_first_seat(self):
        self.assertEqual(share([0, 9, 0], 2, 4), [0, 0, 4, 0])
        self.assertEqual(share([1, 99], 2, 4, 20000), [0, 0, 4])

    def test_quotients_that_differ_beyond_what_a_float_holds(self):
        for method in (0, 1, 2):
            self.assertEqual(share([MOST - 1, MOST], method, 1), [0, 0, 1], method)
        # 2^57 - 2 is three times this number.
        third = (2 ** 57 - 2) // 3
        # By 0 two seats are there already, by 1 one: the divisor is 3.
        for method, seats in ((0, 3), (1, 2)):
            self.assertEqual(share([third, MOST - 1], method, seats), [0, 1, seats - 1], method)
            self.assertEqual(share([third, MOST], method, seats), [0, 0, seats], method)
            self.assertEqual(share([MOST - 1, third], method, seats), [0, seats, 0], method)
            self.assertEqual(share([MOST - 2, third], method, seats), [0, seats - 1, 1], method)

    def test_cuts_that_differ_beyond_what_a_float_holds(self):
        # Each gets a half of one seat, but for a hair.
        self.assertEqual(share([MOST, MOST], 3, 1), [0, 1, 0])
        self.assertEqual(share([MOST - 1, MOST], 3, 1), [0, 0, 1])
        self.assertEqual(share([MOST - 1, MOST, MOST], 3, 2), [0, 0, 1, 1])
        self.assertEqual(share([MOST - 1, MOST, MOST], 3, 65534), [0, 21844, 21845, 21845])


class CutsTest(unittest.TestCase):
    def test_parts_without_a_cut(self):
        self.assertEqual(share([50, 30, 20], 3, 10), [0, 5, 3, 2])
        self.assertEqual(share([1, 0, 1], 3, 65534), [0, 32767, 0, 32767])

    def test_left_seats_go_to_those_cut_by_the_most(self):
        # 4.16, 3.33 and 2.51 of 10.
        self.assertEqual(share([416, 333, 251], 3, 10), [0, 4, 3, 3])
        self.assertEqual(share([251, 333, 416], 3, 10), [0, 3, 3, 4])

    def test_left_seats_among_those_cut_by_the_same_go_to_the_lowest_number(self):
        self.assertEqual(share([1, 1, 1, 1], 3, 2), [0, 1, 1, 0, 0])
        self.assertEqual(share([1, 1, 1, 1], 3, 7), [0, 2, 2, 2, 1])
        # 0.5, 1.5 and 1 of 3: the cut is compared, not the part.
        self.assertEqual(share([1, 3, 2], 3, 3), [0, 1, 1, 1])
        self.assertEqual(share([3, 1, 2], 3, 3), [0, 2, 0, 1])

    def test_only_votes_of_parties_that_pass_are_shared_by(self):
        # Without the last, 2.4 and 3.6 of 6; of all votes it would be 2.18 and 3.27.
        self.assertEqual(share([40, 60, 10], 3, 6, 100000), [0, 2, 4, 0])
        self.assertEqual(share([40, 60, 10], 3, 110, 100000), [0, 44, 66, 0])

    def test_no_seats(self):
        self.assertEqual(share([3, 5, 1], 3, 0), [0, 0, 0, 0])
        self.assertEqual(share([0, 0, 0], 3, 0), [0, 0, 0, 0])


class AgainstFractionsTest(unittest.TestCase):
    def test_every_small_house(self):
        for votes in itertools.product(range(5), repeat=3):
            for parts in (0, 300000):
                asked = [(method, seats) for method in METHODS for seats in range(9)]
                calls = house_of(votes, parts)
                for method, seats in asked:
                    calls += share_call(method, seats, 3)
                given = split_answers(answers(calls))[-len(asked):]
                expected = [expected_share(votes, method, seats, parts) for method, seats in asked]
                self.assertEqual(given, expected, (votes, parts))

    def test_houses_of_every_size(self):
        numbers = made_up_numbers(1)
        for n in range(1, 65):
            bits = 3 + next(numbers) % 54
            votes = [(next(numbers) << 25 | next(numbers) >> 7) >> (57 - bits) for party in range(n)]
            for method in METHODS:
                for seats in (n - 1, n, n + 1, 2 * n + next(numbers) % 40):
                    expected = expected_share(votes, method, seats, 9000)
                    self.assertEqual(share(votes, method, seats, 9000), expected, (votes, method, seats))


class ManySeatsTest(unittest.TestCase):
    def check(self, votes, method, seats, parts):
        """Each seat that is given ranks above each one that would be next: so they are the first ones."""
        given = share(votes, method, seats, parts)
        self.assertEqual((given[0], len(given)), (0, len(votes) + 1))
        have = given[1:]
        self.assertEqual(sum(have), seats)
        among = passing(votes, parts)
        self.assertEqual([have[party] for party in range(len(votes)) if party not in among and have[party]], [])
        last_given = min(rank(method, votes, party, have[party] - 1) for party in among if have[party])
        first_not_given = max(rank(method, votes, party, have[party]) for party in among)
        self.assertGreater(last_given, first_not_given, (votes, method, seats, parts))

    def houses(self):
        numbers = made_up_numbers(2)
        yield [next(numbers) << 25 | next(numbers) >> 7 for party in range(64)]
        yield [next(numbers) % 50 for party in range(64)]
        yield [MOST] * 64
        yield [MOST - party for party in range(64)]
        yield [1] * 63 + [2]
        yield [MOST] + [1] * 63
        yield [party * party for party in range(64)]
        yield [2 ** (party % 8) for party in range(64)]
        yield [MOST]
        yield [3, 5]

    def test_up_to_65535_seats_by_quotients(self):
        for votes in self.houses():
            for method in (0, 1, 2):
                for seats in (65, 100, 1000, 32768, 65534, 65535):
                    # With the threshold 0 the parties with next to no votes are among them.
                    self.check(votes, method, seats, 0)
                    self.check(votes, method, seats, 2000)

    def test_65535_seats_by_cuts(self):
        for votes in self.houses():
            for parts in (0, 2000):
                expected = expected_share(votes, 3, 65535, parts)
                self.assertEqual(share(votes, 3, 65535, parts), expected, (votes, parts))

    def test_65535_seats_among_64_equal_parties(self):
        for method in METHODS:
            self.assertEqual(share([9] * 64, method, 65535), [0] + [1024] * 63 + [1023], method)

    def test_65535_seats_for_one_party(self):
        for method in METHODS:
            self.assertEqual(share([1], method, 65535), [0, 65535], method)
            self.assertEqual(share([0, MOST, 0], method, 65535), [0, 0, 65535, 0], method)

    def test_many_times_65535_seats_among_64_parties(self):
        calls = house_of([MOST - 3 * party for party in range(64)])
        for k in range(34):
            calls += share_call(k % 3, 65535, 64)
        given = split_answers(answers(calls))
        self.assertEqual(len(given), 100)
        self.assertEqual([sum(row) for row in given[-34:]], [65535] * 34)


class ShareAnswersTest(unittest.TestCase):
    def test_answers_0_then_a_number_for_each_party(self):
        self.assertEqual(answers(house_of([3, 0, 1]) + share_call(0, 4, 3))[-5:], [4, 0, 3, 0, 1])
        self.assertEqual(answers([0, 1, 1, 0, 1, 3, 0, 0, 1]), [1, 0, 1, 0, 2, 0, 0])

    def test_a_refusal_is_its_number_alone(self):
        self.assertEqual(answers([0, 2, 3, 0, 1, 2]), [1, 0, 1, -1])

    def test_parties_that_do_not_pass_have_no_seat(self):
        for method in METHODS:
            self.assertEqual(share([0, 8, 1, 0], method, 50, 200000), [0, 0, 50, 0, 0], method)

    def test_another_method(self):
        for method in NO_METHODS:
            for seats in (0, 5):
                self.assertEqual(share([2, 3], method, seats), [-1], (method, seats))
                self.assertEqual(share([0, 0], method, seats), [-1], (method, seats))

    def test_a_count_that_is_not_the_number_of_parties(self):
        for n in (1, 2, 64):
            for count in (0, n - 1, n + 1, 65, TOP):
                for method in METHODS:
                    for seats in (0, 5):
                        given = last_answer(house_of([4] * n) + share_call(method, seats, count))
                        self.assertEqual(given, [-1], (n, count, method, seats))

    def test_more_than_65535_seats(self):
        for method in METHODS:
            self.assertEqual(sum(share([2, 3], method, 65535)), 65535)
            for seats in (65536, 65537, 131072, TOP):
                self.assertEqual(share([2, 3], method, seats), [-1], (method, seats))
                self.assertEqual(share([0, 0], method, seats), [-1], (method, seats))

    def test_seats_to_give_but_no_party_passes(self):
        for method in METHODS:
            for seats in (1, 2, 65535):
                self.assertEqual(share([0], method, seats), [-1], (method, seats))
                self.assertEqual(share([0, 0, 0], method, seats), [-1], (method, seats))
                self.assertEqual(share([1, 1, 1], method, seats, 400000), [-1], (method, seats))

    def test_no_seats_to_give(self):
        for method in METHODS:
            self.assertEqual(share([5, 2, 0], method, 0), [0, 0, 0, 0], method)
            self.assertEqual(share([0, 0, 0], method, 0), [0, 0, 0, 0], method)
            self.assertEqual(share([1, 1, 1], method, 0, 400000), [0, 0, 0, 0], method)
            self.assertEqual(share([0], method, 0), [0, 0], method)

    def test_changes_nothing(self):
        house = House()
        house.begin(3)
        house.votes(0, 5)
        house.votes(1, 8)
        house.least(70)
        for method in METHODS + NO_METHODS:
            for seats in (0, 7, 65536):
                for count in (3, 4):
                    house.share(method, seats, count)
                    self.assertEqual((house.party_votes, house.threshold), ([5, 8, 0], 70))


if __name__ == "__main__":
    unittest.main()
