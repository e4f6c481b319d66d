"""Candidates, the ranks that a ballot gives them, and the orders of them.

How ballots stand to the candidates is told by before: before[x][y] is how many of them put x before y.
"""

LEAST_CANDIDATES = 2
MOST_CANDIDATES = 8
NOBODY = 255

# The bit by which a set of candidates, a whole number, has this candidate.
BITS = (1, 2, 4, 8, 16, 32, 64, 128)


def candidates_fit(candidates):
    """Tell whether there may be so many candidates."""
    return LEAST_CANDIDATES <= candidates <= MOST_CANDIDATES


def rank_fits(candidate, rank, candidates):
    """Tell whether a ballot may have this rank in this candidate's place."""
    if candidate < candidates:
        return 1 <= rank <= candidates
    return rank == 0


def ranks_fit(ranks, candidates):
    """Tell whether a row of ranks is a ballot's, with so many candidates."""
    for candidate, rank in enumerate(ranks):
        if not rank_fits(candidate, rank, candidates):
            return False
    return True


def before_without_ballots(candidates):
    """Answer how many ballots put x before y where there is none."""
    return [[0] * candidates for candidate in range(candidates)]


def count_ballot(before, ranks):
    """Add a ballot to those that were counted."""
    for x in range(len(before)):
        for y in range(len(before)):
            if ranks[x] < ranks[y]:
                before[x][y] += 1


def padded(order):
    """Answer an order as a row of eight."""
    return order + [NOBODY] * (MOST_CANDIDATES - len(order))


def order_fits(row, candidates):
    """Tell whether a row of eight is an order of so many candidates."""
    order = row[:candidates]
    return sorted(order) == list(range(candidates)) and row == padded(order)


def how_much_against(before, order):
    """Answer how much an order goes against the ballots."""
    total = 0
    for place, ahead in enumerate(order):
        for behind in order[place + 1:]:
            total += before[behind][ahead]
    return total


def sums_of_sets(numbers):
    """Answer the sum of the numbers at a set's places, by the set."""
    sums = [0]
    for number in numbers:
        # The sets that have the next place are those without it, told once more with one bit more.
        sums = sums + [total + number for total in sums]
    return sums


def sums_if_ahead(before):
    """Answer how much it goes against the ballots to have a candidate ahead of a set, by candidate and set."""
    return [sums_of_sets([row[ahead] for row in before]) for ahead in range(len(before))]


def least_if_ahead(sums, least, members, ahead):
    """Answer how much the best order of a set with this member ahead of the others goes against the ballots."""
    return sums[ahead][members] + least[members ^ BITS[ahead]]


def members_of(members, candidates):
    """Answer the candidates that a set has, the lowest first."""
    return [candidate for candidate in range(candidates) if members & BITS[candidate] != 0]


def least_of_sets(sums):
    """Answer how much the best order of a set goes against the ballots, by the set.

    Whoever is ahead, what is behind goes least against the ballots if it does so by itself; so each set is
    found from those with one member less, and not all orders have to be gone through.
    """
    least = [0]
    for members in range(1, len(sums[0])):
        least.append(min([least_if_ahead(sums, least, members, ahead) for ahead in members_of(members, len(sums))]))
    return least


def best_ahead(sums, least, members):
    """Answer the lowest member that the best orders of a set have ahead."""
    ways = [(least_if_ahead(sums, least, members, ahead), ahead) for ahead in members_of(members, len(sums))]
    return min(ways)[1]


def order_of(before):
    """Answer the first of the orders that go least against the ballots."""
    sums = sums_if_ahead(before)
    least = least_of_sets(sums)
    members = len(least) - 1
    order = []
    while members != 0:
        ahead = best_ahead(sums, least, members)
        order.append(ahead)
        members = members ^ BITS[ahead]
    return order
