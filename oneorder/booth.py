"""A booth, at which ballots are cast till it is closed."""

from oneorder.messages import MOST_BALLOTS, MOST_BOOTHS, ballot_message, closing_message
from oneorder.orders import candidates_fit, ranks_fit
from oneorder.refusals import CLOSED, FULL, NOT_THERE, WRONG


class Booth:
    """Who it is, how many candidates there are, its ballots as they came, and whether it is closed.

    Each call answers a list: the number, then the message's bytes where there is one.
    """

    def __init__(self):
        self.me = 0
        self.candidates = 0
        self.ballots = []
        self.closed = False

    def start(self, me, candidates):
        """Begin anew as booth me, without ballots."""
        if me >= MOST_BOOTHS or not candidates_fit(candidates):
            return [WRONG]
        self.me = me
        self.candidates = candidates
        self.ballots = []
        self.closed = False
        return [0]

    def vote(self, ranks):
        """Take a ballot more."""
        if not ranks_fit(ranks, self.candidates):
            return [WRONG]
        if self.closed:
            return [CLOSED]
        if len(self.ballots) >= MOST_BALLOTS:
            return [FULL]
        # A copy, so that a ballot stays as it was cast whatever becomes of the caller's list.
        self.ballots.append(list(ranks))
        return self.again(len(self.ballots) - 1)

    def close(self):
        """Take no ballot from now on."""
        self.closed = True
        ballots = len(self.ballots)
        return [ballots] + closing_message(self.me, ballots)

    def again(self, number):
        """Tell a ballot's message once more."""
        if number >= len(self.ballots):
            return [NOT_THERE]
        return [number] + ballot_message(self.me, number, self.ballots[number])
