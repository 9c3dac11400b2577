"""How seats are shared out among parties that all have votes, each told by its place in the lists."""

DIVIDE_BY_SEATS = 0
DIVIDE_BY_ODDS = 1
DIVIDE_BY_ROOTS = 2
LARGEST_REMAINDERS = 3


def quotient(method, votes, seats):
    """Give back a party's quotient as a pair: what is divided, and by what."""
    if method == DIVIDE_BY_SEATS:
        return (votes, seats + 1)
    if method == DIVIDE_BY_ODDS:
        return (votes, 2 * seats + 1)
    # Squares stand in the same order as their roots, and are exact.
    return (votes * votes, seats * (seats + 1))


def is_greater(one, other):
    """Tell whether the quotient one is greater than the quotient other."""
    # Crosswise, a division by 0 comes out above every other one, as a first seat by roots must.
    # Two of them would come out equal, so these are told apart by what is divided.
    if one[1] == 0 and other[1] == 0:
        return one[0] > other[0]
    return one[0] * other[1] > other[0] * one[1]


def next_place(method, votes, have):
    """Give back the place of the party that gets the next seat; there is at least one party."""
    best = 0
    best_quotient = quotient(method, votes[0], have[0])
    for place in range(1, len(votes)):
        found = quotient(method, votes[place], have[place])
        # Among equals the lowest number stays.
        if is_greater(found, best_quotient):
            best = place
            best_quotient = found
    return best


def sure_seats(votes, seats):
    """Give back seats that each party is sure to get when so many are given one after another."""
    # Every method's divisor of a k-th seat (by odds: half of it, which changes no order) lies from k - 1 to k.
    # So with P parties, T votes and S seats, a party with v votes has v (S - P) / T, rounded down, or one more
    # quotients of at least T / (S - P). These are the greatest, and at most S together: each of them gets its seat.
    spread = max(seats - len(votes), 0)
    total = sum(votes)
    return [each * spread // total for each in votes]


def share_by_quotients(method, votes, seats):
    """Share out the seats one after another, each to the greatest quotient."""
    # What is sure is given at once: 65535 seats one by one among 64 parties take too long.
    have = sure_seats(votes, seats)
    left = seats - sum(have)
    while left > 0:
        place = next_place(method, votes, have)
        have[place] += 1
        left -= 1
    return have


def share_by_remainders(votes, seats):
    """Share out the seats by parts rounded down, those left to the parts that were cut by the most."""
    total = sum(votes)
    have = [each * seats // total for each in votes]
    cuts = [each * seats % total for each in votes]
    left = seats - sum(have)
    # Sorting keeps the order of those cut by the same, so the lowest number stays first.
    most_cut_first = sorted(range(len(votes)), key=lambda spot: -cuts[spot])
    for place in most_cut_first[:left]:
        have[place] += 1
    return have


def share_out(method, votes, seats):
    """Give back how many seats each party gets; there are none to give where there is no party."""
    if method == LARGEST_REMAINDERS:
        return share_by_remainders(votes, seats)
    return share_by_quotients(method, votes, seats)
