"""The office, to which the booths' messages go."""

from oneorder.messages import MOST_BOOTHS
from oneorder.orders import candidates_fit
from oneorder.refusals import WRONG


class Office:
    """How many candidates and booths there are, and what was heard.

    ballots has ranks by (booth, number), closings how many ballots by booth.
    """

    def __init__(self):
        self.candidates = 0
        self.booths = 0
        self.ballots = {}
        self.closings = {}

    def start(self, candidates, booths):
        """Begin anew, with nothing heard."""
        if not candidates_fit(candidates) or not 1 <= booths <= MOST_BOOTHS:
            return [WRONG]
        self.candidates = candidates
        self.booths = booths
        self.ballots = {}
        self.closings = {}
        return [0]
