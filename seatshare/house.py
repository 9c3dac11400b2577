"""A house of parties, and the answers to a list of calls on one."""

from seatshare.sharing import DIVIDE_BY_ROOTS, LARGEST_REMAINDERS, next_place, share_out

REFUSED = -1

MOST_PARTIES = 64

# 2 to the 57th: 64 parties with fewer votes than this have fewer than 2 to the 63rd in all.
VOTES_LIMIT = 144115188075855872

# The threshold is told in millionths, so this is all of the votes.
MOST_PARTS = 1000000

# Also the most seats that a party may have when the next seat is asked for.
MOST_SEATS = 65535

BEGIN = 0
VOTES = 1
LEAST = 2
SHARE = 3
NEXT_PARTY = 4

# By a call's number: how many numbers of the list it takes, its own among them, but not those of a row.
CALL_LENGTHS = {0: 2, 1: 3, 2: 2, 3: 4, 4: 4, 5: 2}


class House:
    """Parties, numbered from 0, with their votes, and the threshold in millionths."""

    def __init__(self):
        self.party_votes = []
        self.threshold = 0

    def begin(self, n):
        """Start over with n parties without votes and the threshold 0."""
        if n < 1 or n > MOST_PARTIES:
            return REFUSED
        self.party_votes = [0] * n
        self.threshold = 0
        return 0

    def has_party(self, party):
        """Tell whether there is a party of this number."""
        return 0 <= party and party < len(self.party_votes)

    def votes(self, party, votes):
        """Give a party these votes in the place of those it had."""
        if not self.has_party(party) or votes >= VOTES_LIMIT:
            return REFUSED
        self.party_votes[party] = votes
        return 0

    def least(self, parts):
        """Set the threshold to so many millionths of all votes."""
        if parts > MOST_PARTS:
            return REFUSED
        self.threshold = parts
        return 0

    def passes(self, party):
        """Answer 1 if the party has votes and reaches the threshold, 0 if not."""
        if not self.has_party(party):
            return REFUSED
        votes = self.party_votes[party]
        if votes > 0 and MOST_PARTS * votes >= self.threshold * sum(self.party_votes):
            return 1
        return 0

    def passing_parties(self):
        """Give back the numbers of the parties that pass, the lowest first."""
        return [party for party in range(len(self.party_votes)) if self.passes(party) == 1]

    def share(self, method, seats, count):
        """Answer 0 and each party's seats, or a refusal alone, as a list."""
        if method < 0 or method > LARGEST_REMAINDERS:
            return [REFUSED]
        if count != len(self.party_votes) or seats > MOST_SEATS:
            return [REFUSED]
        passing = self.passing_parties()
        if seats > 0 and len(passing) == 0:
            return [REFUSED]
        given = share_out(method, [self.party_votes[party] for party in passing], seats)
        party_seats = [0] * len(self.party_votes)
        for place, party in enumerate(passing):
            party_seats[party] = given[place]
        return [0] + party_seats

    def next_party(self, method, count, have):
        """Answer the party that gets the next seat where the parties have so many."""
        # The largest remainders are found for all seats at once: there is no next one.
        if method < 0 or method > DIVIDE_BY_ROOTS:
            return REFUSED
        if count != len(self.party_votes) or max(have) > MOST_SEATS:
            return REFUSED
        passing = self.passing_parties()
        if len(passing) == 0:
            return REFUSED
        votes = [self.party_votes[party] for party in passing]
        return passing[next_place(method, votes, [have[party] for party in passing])]


def answer_call(house, call):
    """Give back the list of numbers that one call answers."""
    if call[0] == BEGIN:
        return [house.begin(call[1])]
    if call[0] == VOTES:
        return [house.votes(call[1], call[2])]
    if call[0] == LEAST:
        return [house.least(call[1])]
    if call[0] == SHARE:
        return house.share(call[1], call[2], call[3])
    if call[0] == NEXT_PARTY:
        return [house.next_party(call[1], call[2], call[4:])]
    # CALL_LENGTHS has let no other number through than that of passes.
    return [house.passes(call[1])]


def call_end(calls, at):
    """Give back where the call that begins at this place ends."""
    end = at + CALL_LENGTHS[calls[at]]
    if calls[at] == NEXT_PARTY:
        # The last number ahead of the row tells how long the row is.
        end += calls[end - 1]
    return end


def answers(calls):
    """Give back, for each call in order, how many numbers it answers, then these."""
    house = House()
    given = []
    at = 0
    while at < len(calls):
        after = call_end(calls, at)
        answer = answer_call(house, calls[at:after])
        given.append(len(answer))
        given.extend(answer)
        at = after
    return given
