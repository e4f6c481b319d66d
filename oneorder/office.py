"""The office, to which the booths' messages go."""

from oneorder.messages import CLOSING, MOST_BOOTHS, booth_of, is_right, kind_of, number_of, ranks_of
from oneorder.orders import before_without_ballots, candidates_fit, count_ballot, how_much_against
from oneorder.orders import order_fits, order_of, padded
from oneorder.refusals import NOT_CLOSED, NOT_RIGHT, NOTHING_LACKS, WRONG


class Office:
    """How many candidates and booths there are, and what was heard.

    ballots has ranks by (booth, number), closings how many ballots by booth. before is how many of the ballots
    put x before y, and found their order, or no candidates while it isn't known: both are kept because going
    through all ballots, and all sets of candidates, at each call would take too long.

    Each call answers a list: the number, then the order's eight where there is one.
    """

    def __init__(self):
        self.candidates = 0
        self.booths = 0
        self.ballots = {}
        self.closings = {}
        self.before = []
        self.found = []

    def start(self, candidates, booths):
        """Begin anew, with nothing heard."""
        if not candidates_fit(candidates) or not 1 <= booths <= MOST_BOOTHS:
            return [WRONG]
        self.candidates = candidates
        self.booths = booths
        self.ballots = {}
        self.closings = {}
        self.before = before_without_ballots(candidates)
        self.found = []
        return [0]

    def heard(self, message):
        """Keep what a message tells, if it is new."""
        if not is_right(message, self.candidates) or booth_of(message) >= self.booths:
            return [NOT_RIGHT]
        if kind_of(message) == CLOSING:
            return self.heard_closing(booth_of(message), number_of(message))
        return self.heard_ballot((booth_of(message), number_of(message)), ranks_of(message))

    def heard_closing(self, booth, ballots):
        """Keep a booth's closing, if it is the first."""
        if booth in self.closings:
            return [0]
        self.closings[booth] = ballots
        return [1]

    def heard_ballot(self, whose, ranks):
        """Keep a ballot, if none of that booth and number was heard."""
        if whose in self.ballots:
            return [0]
        self.ballots[whose] = ranks
        count_ballot(self.before, ranks)
        self.found = []
        return [1]

    def first_not_heard(self, booth):
        """Answer the lowest number of a closed booth's ballots that was not heard, or how many it has."""
        number = 0
        while number < self.closings[booth] and (booth, number) in self.ballots:
            number += 1
        return number

    def is_whole(self, booth):
        """Tell whether a booth is closed and none of its ballots is lacking."""
        return booth in self.closings and self.first_not_heard(booth) == self.closings[booth]

    def is_final(self):
        """Tell whether all booths are closed and no ballot is lacking."""
        return all([self.is_whole(booth) for booth in range(self.booths)])

    def lacks(self, booth):
        """Tell the lowest ballot of a closed booth that is lacking."""
        if booth >= self.booths:
            return [WRONG]
        if booth not in self.closings:
            return [NOT_CLOSED]
        number = self.first_not_heard(booth)
        if number == self.closings[booth]:
            return [NOTHING_LACKS]
        return [number]

    def prefer(self, x, y):
        """Tell how many ballots put x before y."""
        if x >= self.candidates or y >= self.candidates:
            return [WRONG]
        return [self.before[x][y]]

    def order(self):
        """Tell the order of all ballots, and whether it is final."""
        if len(self.found) == 0:
            self.found = order_of(self.before)
        return [1 if self.is_final() else 0] + padded(self.found)

    def against(self, row):
        """Tell how much an order goes against the ballots."""
        if not order_fits(row, self.candidates):
            return [WRONG]
        return [how_much_against(self.before, row[:self.candidates])]
