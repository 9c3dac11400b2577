"""Point 3: which parties pass, and what passes answers."""

import unittest

from house_calls import HIGHEST, LOWEST, house_of, last_answer, passes, passes_call, passing
from seatshare.house import House, answers

MOST = 2 ** 57 - 1


class PassesTest(unittest.TestCase):
    def test_answers_one_number(self):
        self.assertEqual(answers([0, 2, 1, 1, 4, 5, 0, 5, 1, 5, 2]), [1, 0, 1, 0, 1, 0, 1, 1, 1, -1])

    def test_just_at_the_threshold_it_passes(self):
        self.assertEqual(passes([5, 95], 0, 50000), [1])
        self.assertEqual(passes([50000, 950000], 0, 50000), [1])
        self.assertEqual(passes([1, 999999], 0, 1), [1])

    def test_one_vote_below_the_threshold_it_does_not_pass(self):
        self.assertEqual(passes([4, 96], 0, 50000), [0])
        self.assertEqual(passes([49999, 950001], 0, 50000), [0])
        self.assertEqual(passes([1, 1000000], 0, 1), [0])

    def test_one_millionth_above_its_part_it_does_not_pass(self):
        self.assertEqual(passes([5, 95], 0, 50001), [0])
        self.assertEqual(passes([1, 2], 0, 333333), [1])
        self.assertEqual(passes([1, 2], 0, 333334), [0])

    def test_votes_of_parties_that_do_not_pass_are_among_all_votes(self):
        self.assertEqual(passes([10, 89, 1], 0, 100000), [1])
        # Of the 99 votes of the others it would be more than a tenth.
        self.assertEqual(passes([10, 89, 2], 0, 100000), [0])
        self.assertEqual(passes([10, 89, 2], 1, 100000), [1])

    def test_a_party_without_votes_does_not_pass(self):
        for parts in (0, 1, 1000000):
            self.assertEqual(passes([0, 3], 0, parts), [0], parts)
            self.assertEqual(passes([0, 0], 0, parts), [0], parts)
            self.assertEqual(passes([0], 0, parts), [0], parts)

    def test_any_vote_passes_the_threshold_0(self):
        self.assertEqual(passes([1, MOST], 0, 0), [1])

    def test_all_votes_pass_the_highest_threshold(self):
        self.assertEqual(passes([1], 0, 1000000), [1])
        self.assertEqual(passes([0, MOST], 1, 1000000), [1])
        self.assertEqual(passes([1, MOST], 1, 1000000), [0])

    def test_votes_that_differ_beyond_what_a_float_holds(self):
        self.assertEqual(passes([MOST, MOST], 0, 500000), [1])
        self.assertEqual(passes([MOST - 1, MOST], 0, 500000), [0])
        self.assertEqual(passes([MOST - 1, MOST], 1, 500000), [1])

    def test_64_parties_with_the_most_votes(self):
        self.assertEqual(last_answer(house_of([MOST] * 64, 15625) + passes_call(63)), [1])
        self.assertEqual(last_answer(house_of([MOST] * 64, 15626) + passes_call(63)), [0])

    def test_a_party_that_is_not_one(self):
        for votes in ([7], [7, 0, 3], [1] * 64):
            for party in (-1, -2, -len(votes), len(votes), len(votes) + 1, 64, LOWEST, HIGHEST):
                self.assertEqual(passes(votes, party), [-1], (votes, party))

    def test_small_houses_as_fractions_tell(self):
        for first in range(5):
            for second in range(5):
                for parts in (0, 1, 200000, 250000, 333333, 333334, 500000, 750000, 999999, 1000000):
                    votes = [first, second, 2]
                    calls = house_of(votes, parts) + passes_call(0) + passes_call(1) + passes_call(2)
                    expected = [int(party in passing(votes, parts)) for party in range(3)]
                    self.assertEqual(answers(calls)[-5::2], expected, (votes, parts))

    def test_changes_nothing(self):
        house = House()
        house.begin(3)
        house.votes(1, 8)
        house.least(70)
        for party in (-1, 0, 1, 2, 3):
            house.passes(party)
            self.assertEqual((house.party_votes, house.threshold), ([0, 8, 0], 70))


if __name__ == "__main__":
    unittest.main()
