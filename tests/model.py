"""What the document says of orders and the office, told over in the slowest and plainest way."""

import functools
import itertools

from lists import NOT_CLOSED, NOT_RIGHT, NOTHING_LACKS, WRONG, order_row, other_check


def preferring(ballots, x, y):
    return sum(1 for ranks in ballots if ranks[x] < ranks[y])


def against(ballots, order):
    return sum(preferring(ballots, second, first) for first, second in itertools.combinations(order, 2))


@functools.lru_cache(maxsize=None)
def searched_by_counts(counts):
    """The first of the least orders, by a search through all of them; counts[x][y] put x before y."""
    best, least = None, None
    for order in itertools.permutations(range(len(counts))):
        much = sum(counts[second][first] for first, second in itertools.combinations(order, 2))
        if least is None or much < least:
            best, least = order, much
    return list(best)


def searched(ballots, candidates):
    everyone = range(candidates)
    return searched_by_counts(tuple(tuple(preferring(ballots, x, y) for y in everyone) for x in everyone))


def right(numbers, candidates):
    kind, booth, zeros, row = numbers[0], numbers[1], numbers[2:4], numbers[8:16]
    number = int.from_bytes(bytes(numbers[4:8]), "little")
    if int.from_bytes(bytes(numbers[16:]), "little") != other_check(numbers[:16]) or booth > 7 or any(zeros):
        return False
    if kind == 1:
        ranks, behind = row[:candidates], row[candidates:]
        return number < 4096 and set(ranks) <= set(range(1, candidates + 1)) and not any(behind)
    return kind == 2 and number <= 4096 and not any(row)


class ModelOffice:
    def __init__(self):
        self.candidates = self.booths = None
        self.ballots, self.closings = {}, {}

    def final(self):
        return all(booth in self.closings and all((booth, number) in self.ballots
                                                  for number in range(self.closings[booth]))
                   for booth in range(self.booths))

    def start(self, candidates, booths):
        if candidates not in range(2, 9) or booths not in range(1, 9):
            return [WRONG]
        self.candidates, self.booths = candidates, booths
        self.ballots, self.closings = {}, {}
        return [0]

    def heard(self, numbers):
        if not right(numbers, self.candidates) or numbers[1] >= self.booths:
            return [NOT_RIGHT]
        booth, number = numbers[1], numbers[4] + 256 * numbers[5]
        kept, key, value = ((self.ballots, (booth, number), numbers[8:16]) if numbers[0] == 1
                            else (self.closings, booth, number))
        if key in kept:
            return [0]
        kept[key] = value
        return [1]

    def lacks(self, booth):
        if booth >= self.booths:
            return [WRONG]
        if booth not in self.closings:
            return [NOT_CLOSED]
        lacking = [number for number in range(self.closings[booth]) if (booth, number) not in self.ballots]
        return [min(lacking)] if lacking else [NOTHING_LACKS]

    def prefer(self, x, y):
        if max(x, y) >= self.candidates:
            return [WRONG]
        return [preferring(self.ballots.values(), x, y)]

    def order(self):
        return [int(self.final())] + order_row(*searched(self.ballots.values(), self.candidates))

    def against(self, row):
        for order in itertools.permutations(range(self.candidates)):
            if order_row(*order) == list(row):
                return [against(self.ballots.values(), order)]
        return [WRONG]

    def answer(self, call):
        name = {4: "start", 5: "heard", 6: "lacks", 7: "prefer", 8: "order", 9: "against"}[call[0]]
        given = [call[3:]] if name in ("heard", "against") else call[2:]
        return getattr(self, name)(*given)
