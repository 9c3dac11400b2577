"""What the tests of share, next_party and passes ask with, and the document's words on seats as plain fractions."""

from fractions import Fraction

from seatshare.house import answers

LOWEST = -2147483648
HIGHEST = 2147483647
TOP = 4294967295


def house_of(votes, parts=0):
    """The calls after which there are parties with these votes, and this threshold."""
    calls = [0, len(votes)]
    for party, number in enumerate(votes):
        if number:
            calls += [1, party, number]
    return calls + [2, parts]


def share_call(method, seats, count):
    return [3, method, seats, count]


def next_call(method, count, have):
    return [4, method, count, len(have)] + list(have)


def passes_call(party):
    return [5, party]


def split_answers(given):
    """The answers, each a list of its own, without the counts."""
    found = []
    at = 0
    while at < len(given):
        row = given[at + 1:at + 1 + given[at]]
        assert len(row) == given[at] > 0, given
        found.append(row)
        at += 1 + given[at]
    return found


def last_answer(calls):
    return split_answers(answers(calls))[-1]


def share(votes, method, seats, parts=0):
    return last_answer(house_of(votes, parts) + share_call(method, seats, len(votes)))


def next_party(votes, method, have, parts=0):
    return last_answer(house_of(votes, parts) + next_call(method, len(votes), have))


def passes(votes, party, parts=0):
    return last_answer(house_of(votes, parts) + passes_call(party))


def passing(votes, parts):
    """The parties that pass, by point 3."""
    least = Fraction(parts, 1000000) * sum(votes)
    return [party for party, number in enumerate(votes) if number > 0 and number >= least]


def rank(method, votes, party, seats):
    """What is the greater, the sooner a party that has so many seats gets its next one, by point 4."""
    number = votes[party]
    if method == 0:
        return (0, Fraction(number, seats + 1), -party)
    if method == 1:
        return (0, Fraction(number, 2 * seats + 1), -party)
    if seats == 0:
        return (1, Fraction(number), -party)
    return (0, Fraction(number * number, seats * (seats + 1)), -party)


def seats_one_by_one(method, votes, seats, parts):
    """Point 4, seat by seat."""
    have = [0] * len(votes)
    for _ in range(seats):
        best = max(passing(votes, parts), key=lambda party: rank(method, votes, party, have[party]))
        have[best] += 1
    return have


def seats_by_cuts(votes, seats, parts):
    """Point 5."""
    among = passing(votes, parts)
    total = sum(votes[party] for party in among)
    have = [0] * len(votes)
    cuts = {}
    for party in among:
        part = Fraction(votes[party] * seats, total)
        have[party] = part.numerator // part.denominator
        cuts[party] = part - have[party]
    for party in sorted(among, key=lambda party: (-cuts[party], party))[:seats - sum(have)]:
        have[party] += 1
    return have


def expected_share(votes, method, seats, parts=0):
    """Point 6, for a method from 0 to 3 and at most 65535 seats."""
    if seats and not passing(votes, parts):
        return [-1]
    if method == 3:
        return [0] + seats_by_cuts(votes, seats, parts)
    return [0] + seats_one_by_one(method, votes, seats, parts)


def made_up_numbers(seed):
    """Numbers from 0 to 2^32 - 1 that look like chance, and are the same each time."""
    state = seed
    while True:
        state = (state * 6364136223846793005 + 1442695040888963407) % 2 ** 64
        yield state >> 32
