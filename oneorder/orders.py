"""Candidates and the ranks that a ballot gives them."""

LEAST_CANDIDATES = 2
MOST_CANDIDATES = 8


def candidates_fit(candidates):
    """Tell whether there may be so many candidates."""
    return LEAST_CANDIDATES <= candidates <= MOST_CANDIDATES


def rank_fits(candidate, rank, candidates):
    """Tell whether a ballot may have this rank in this candidate's place."""
    if candidate < candidates:
        return 1 <= rank <= candidates
    return rank == 0


def ranks_fit(ranks, candidates):
    """Tell whether a row of ranks is a ballot's, with so many candidates."""
    for candidate, rank in enumerate(ranks):
        if not rank_fits(candidate, rank, candidates):
            return False
    return True
