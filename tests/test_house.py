"""Points 1 and 2: what begin, votes and least answer, and what a house holds after them."""

import unittest

from seatshare.house import House, answers

LOWEST = -2147483648
HIGHEST = 2147483647
NO_HOUSE_SIZES = (0, 65, 66, 128, 1000, -1, -2, -64, LOWEST, HIGHEST)


def state(house):
    return list(house.party_votes), house.threshold


def filled_house():
    house = House()
    house.begin(3)
    house.votes(0, 10)
    house.votes(2, 30)
    house.least(50000)
    return house


def first_numbers(calls):
    """The answers of calls that each answer one number, without the counts."""
    given = answers(calls)
    assert given[0::2] == [1] * (len(given) // 2), given
    return given[1::2]


class BeginTest(unittest.TestCase):
    def test_every_size_from_1_to_64_is_taken(self):
        for n in range(1, 65):
            self.assertEqual(answers([0, n]), [1, 0], n)
            house = House()
            self.assertEqual(house.begin(n), 0)
            self.assertEqual(state(house), ([0] * n, 0))

    def test_every_size_has_just_so_many_parties(self):
        for n in range(1, 65):
            calls = [0, n, 1, 0, 7, 1, n - 1, 7, 1, n, 7]
            self.assertEqual(first_numbers(calls), [0, 0, 0, -1], n)

    def test_any_other_size_is_refused(self):
        for n in NO_HOUSE_SIZES:
            self.assertEqual(answers([0, 3, 0, n]), [1, 0, 1, -1], n)

    def test_a_refused_begin_changes_nothing(self):
        for n in NO_HOUSE_SIZES:
            house = filled_house()
            self.assertEqual(house.begin(n), -1, n)
            self.assertEqual(state(house), ([10, 0, 30], 50000), n)

    def test_after_a_refused_begin_the_same_parties_are_asked(self):
        for n in NO_HOUSE_SIZES:
            calls = [0, 3, 0, n, 1, 2, 5, 1, 3, 5]
            self.assertEqual(first_numbers(calls), [0, -1, 0, -1], n)

    def test_a_later_begin_clears_votes_and_threshold(self):
        for n in (1, 2, 3, 4, 64):
            house = filled_house()
            self.assertEqual(house.begin(n), 0)
            self.assertEqual(state(house), ([0] * n, 0), n)

    def test_a_later_begin_changes_how_many_parties_there_are(self):
        self.assertEqual(first_numbers([0, 5, 0, 2, 1, 1, 9, 1, 2, 9]), [0, 0, 0, -1])
        self.assertEqual(first_numbers([0, 2, 0, 5, 1, 4, 9, 1, 5, 9]), [0, 0, 0, -1])


class VotesTest(unittest.TestCase):
    def test_sets_the_votes_of_that_party_alone(self):
        house = House()
        house.begin(4)
        house.least(30)
        self.assertEqual(house.votes(1, 250), 0)
        self.assertEqual(house.votes(3, 1), 0)
        self.assertEqual(state(house), ([0, 250, 0, 1], 30))

    def test_sets_and_does_not_add(self):
        house = House()
        house.begin(2)
        for votes in (100, 40, 40, 0, 7):
            self.assertEqual(house.votes(0, votes), 0)
            self.assertEqual(state(house), ([votes, 0], 0))

    def test_the_most_votes_for_one_party_again_and_again(self):
        most = 2 ** 57 - 1
        self.assertEqual(first_numbers([0, 1, 1, 0, most, 1, 0, most]), [0, 0, 0])

    def test_every_party_may_have_the_most_votes(self):
        house = House()
        house.begin(64)
        for party in range(64):
            self.assertEqual(house.votes(party, 2 ** 57 - 1), 0)
        self.assertEqual(state(house), ([2 ** 57 - 1] * 64, 0))

    def test_up_to_which_votes_it_is_taken(self):
        for votes in (0, 1, 2 ** 32, 2 ** 53 + 1, 2 ** 57 - 2, 2 ** 57 - 1):
            self.assertEqual(first_numbers([0, 1, 1, 0, votes]), [0, 0], votes)
            house = House()
            house.begin(1)
            house.votes(0, votes)
            self.assertEqual(state(house), ([votes], 0))

    def test_too_many_votes_are_refused_and_change_nothing(self):
        for votes in (2 ** 57, 2 ** 57 + 1, 2 ** 63, 2 ** 64 - 1):
            self.assertEqual(first_numbers([0, 3, 1, 2, votes]), [0, -1], votes)
            house = filled_house()
            self.assertEqual(house.votes(2, votes), -1)
            self.assertEqual(state(house), ([10, 0, 30], 50000), votes)

    def test_a_party_that_is_not_one_is_refused_and_changes_nothing(self):
        for party in (-1, -2, -3, -4, 3, 4, 63, 64, LOWEST, HIGHEST):
            self.assertEqual(first_numbers([0, 3, 1, party, 5]), [0, -1], party)
            house = filled_house()
            self.assertEqual(house.votes(party, 5), -1)
            self.assertEqual(state(house), ([10, 0, 30], 50000), party)

    def test_a_wrong_party_with_too_many_votes_is_refused(self):
        self.assertEqual(first_numbers([0, 3, 1, 3, 2 ** 57, 1, -1, 2 ** 64 - 1]), [0, -1, -1])


class LeastTest(unittest.TestCase):
    def test_sets_the_threshold_alone(self):
        house = filled_house()
        for parts in (1, 0, 50000, 999999, 1000000, 30000):
            self.assertEqual(house.least(parts), 0)
            self.assertEqual(state(house), ([10, 0, 30], parts))

    def test_up_to_which_threshold_it_is_taken(self):
        for parts in (0, 1, 50000, 999999, 1000000):
            self.assertEqual(answers([0, 1, 2, parts]), [1, 0, 1, 0], parts)

    def test_a_greater_threshold_is_refused_and_changes_nothing(self):
        for parts in (1000001, 1000002, 2000000, 2 ** 31, 4294967295):
            self.assertEqual(answers([0, 1, 2, parts]), [1, 0, 1, -1], parts)
            house = filled_house()
            self.assertEqual(house.least(parts), -1)
            self.assertEqual(state(house), ([10, 0, 30], 50000), parts)


if __name__ == "__main__":
    unittest.main()
