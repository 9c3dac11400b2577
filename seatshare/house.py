"""A house of parties, and the answers to a list of calls on one."""

REFUSED = -1

MOST_PARTIES = 64

# 2 to the 57th: 64 parties with fewer votes than this have fewer than 2 to the 63rd in all.
VOTES_LIMIT = 144115188075855872

# The threshold is told in millionths, so this is all of the votes.
MOST_PARTS = 1000000

BEGIN = 0
VOTES = 1

# By a call's number: how many numbers of the list it takes, its own among them.
CALL_LENGTHS = {0: 2, 1: 3, 2: 2}


class House:
    """Parties, numbered from 0, with their votes, and the threshold in millionths."""

    def __init__(self):
        self.party_votes = []
        self.threshold = 0

    def begin(self, n):
        """Start over with n parties without votes and the threshold 0."""
        if n < 1 or n > MOST_PARTIES:
            return REFUSED
        self.party_votes = [0] * n
        self.threshold = 0
        return 0

    def has_party(self, party):
        """Tell whether there is a party of this number."""
        return 0 <= party and party < len(self.party_votes)

    def votes(self, party, votes):
        """Give a party these votes in the place of those it had."""
        if not self.has_party(party) or votes >= VOTES_LIMIT:
            return REFUSED
        self.party_votes[party] = votes
        return 0

    def least(self, parts):
        """Set the threshold to so many millionths of all votes."""
        if parts > MOST_PARTS:
            return REFUSED
        self.threshold = parts
        return 0


def answer_call(house, call):
    """Give back the list of numbers that one call answers."""
    if call[0] == BEGIN:
        return [house.begin(call[1])]
    if call[0] == VOTES:
        return [house.votes(call[1], call[2])]
    # CALL_LENGTHS has let no other number through than that of least.
    return [house.least(call[1])]


def answers(calls):
    """Give back, for each call in order, how many numbers it answers, then these."""
    house = House()
    given = []
    at = 0
    while at < len(calls):
        after = at + CALL_LENGTHS[calls[at]]
        answer = answer_call(house, calls[at:after])
        given.append(len(answer))
        given.extend(answer)
        at = after
    return given
