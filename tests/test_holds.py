"""The five promises of "What holds", over ballots drawn at random and messages lost, doubled and late."""

import itertools
import random
import unittest

from lists import (ask, look, message, order_row, ranks_of, vb_again, vb_close, vb_start, vb_vote, vo_against,
                   vo_heard, vo_order, vo_prefer, vo_start)
from model import against, preferring, searched


def drawn_ballots(source, candidates, count):
    """Ballots, now and then all leaning one way, so that there is somebody who beats all."""
    lean = source.sample(range(candidates), candidates)
    strength = source.randrange(3)
    ballots = []
    for vote in range(count):
        ranks = [source.randrange(1, candidates + 1) for place in range(candidates)]
        if source.randrange(3) < strength:
            ranks = [1 + min(lean.index(place), source.randrange(candidates)) for place in range(candidates)]
        ballots.append(ranks)
    return ballots


def office_of(candidates, ballots):
    """What an office tells that heard these ballots: its order, and how many put x before y."""
    everyone = range(candidates)
    pairs = [(x, y) for x in everyone for y in everyone]
    heard = [vo_heard(message(1, 0, number, ranks_of(*ranks))) for number, ranks in enumerate(ballots)]
    got = ask(vo_start(candidates, 1), *heard, vo_order(), *[vo_prefer(x, y) for x, y in pairs])[1 + len(ballots):]
    return got[0][1:1 + candidates], {pair: answer[0] for pair, answer in zip(pairs, got[1:])}


def cases(seed, count):
    source = random.Random(seed)
    for case in range(count):
        candidates = source.randrange(2, 9)
        ballots = drawn_ballots(source, candidates, source.randrange(1, 8))
        yield candidates, ballots, *office_of(candidates, ballots)


class OrdersHold(unittest.TestCase):
    def test_least_against(self):
        for seed in range(40):
            source = random.Random(seed)
            candidates = source.randrange(2, 9)
            ballots = drawn_ballots(source, candidates, source.randrange(8))
            order, before = office_of(candidates, ballots)
            others = list(itertools.permutations(range(candidates)))
            others = source.sample(others, min(len(others), 720))
            heard = [vo_heard(message(1, 0, number, ranks_of(*ranks))) for number, ranks in enumerate(ballots)]
            asked = [vo_against(order_row(*other)) for other in [order] + others]
            much = [answer[0] for answer in ask(vo_start(candidates, 1), *heard, *asked)[1 + len(ballots):]]
            self.assertEqual(much[0], against(ballots, order))
            self.assertEqual(min(much), much[0], ballots)

    def test_who_beats_all_is_first_and_who_is_beaten_by_all_last(self):
        firsts = lasts = 0
        for candidates, ballots, order, before in cases(1, 300):
            for x in range(candidates):
                others = [y for y in range(candidates) if y != x]
                if all(preferring(ballots, x, y) > preferring(ballots, y, x) for y in others):
                    firsts += 1
                    self.assertEqual(order[0], x, ballots)
                if all(preferring(ballots, x, y) < preferring(ballots, y, x) for y in others):
                    lasts += 1
                    self.assertEqual(order[-1], x, ballots)
        self.assertGreater(min(firsts, lasts), 50)

    def test_where_nobody_is_against(self):
        met = 0
        for candidates, ballots, order, before in cases(2, 300):
            for a, b in itertools.permutations(range(candidates), 2):
                if preferring(ballots, b, a) == 0 and preferring(ballots, a, b) > 0:
                    met += 1
                    self.assertLess(order.index(a), order.index(b), ballots)
        self.assertGreater(met, 500)

    def test_of_two_side_by_side(self):
        for candidates, ballots, order, before in cases(3, 300):
            for first, second in zip(order, order[1:]):
                self.assertLessEqual(before[second, first], before[first, second], ballots)
                self.assertLessEqual(preferring(ballots, second, first), preferring(ballots, first, second), ballots)


class Vote:
    """Four booths, what they took, and all the messages that they told."""

    def __init__(self, source):
        self.candidates = source.randrange(2, 6)
        self.ballots = []
        self.calls = []
        mes = source.sample(range(4), 4)
        for at in range(4):
            ballots = drawn_ballots(source, self.candidates, source.randrange(5))
            self.ballots += ballots
            self.calls.append(vb_start(mes[at], self.candidates, at))
            self.calls += [vb_vote(ranks_of(*ranks), at) for ranks in ballots]
            self.calls.append(vb_close(at))
            self.calls += [vb_again(number, at) for number in range(len(ballots))]
        self.messages = [answer[1:] for answer in ask(*self.calls) if len(answer) > 1]


def spoiled(source, numbers):
    changed = list(numbers)
    changed[source.randrange(20)] ^= 1 << source.randrange(8)
    return changed


class MessagesHold(unittest.TestCase):
    def test_final_is_final(self):
        finals = 0
        for seed in range(150):
            source = random.Random(seed)
            vote = Vote(source)
            lost = source.sample(vote.messages, source.randrange(len(vote.messages)))
            sent = [numbers for numbers in vote.messages if source.randrange(3) or numbers not in lost]
            sent += source.choices(vote.messages, k=source.randrange(6))
            sent += [spoiled(source, numbers) for numbers in source.choices(vote.messages, k=3)]
            source.shuffle(sent)
            calls = [vo_start(vote.candidates, 4)]
            for numbers in sent:
                calls += [vo_heard(numbers), vo_order()]
            whole = [1] + order_row(*searched(vote.ballots, vote.candidates))
            orders = ask(*vote.calls, *calls)[len(vote.calls) + 2::2]
            for place, answer in enumerate(orders):
                heard_all = all(numbers in sent[:place + 1] for numbers in vote.messages)
                self.assertEqual(answer[0], int(heard_all))
                if answer[0] == 1:
                    self.assertEqual(answer, whole)
            finals += orders[-1][0]
        self.assertTrue(20 < finals < 130, finals)

    def test_asked_for_again_till_nothing_lacks(self):
        for seed in range(40):
            source = random.Random(seed)
            vote = Vote(source)
            closings = [numbers for numbers in vote.messages if numbers[0] == 2]
            ballots = {(numbers[1], numbers[4]): numbers for numbers in vote.messages if numbers[0] == 1}
            calls = [vo_start(vote.candidates, 4)] + [vo_heard(numbers) for numbers in closings]
            for turn in range(len(ballots)):
                told = ask(*calls, *[[6, 0, booth] for booth in range(4)])[len(calls):]
                lacking = [(booth, answer[0]) for booth, answer in enumerate(told) if answer != [-11]]
                calls.append(vo_heard(ballots[source.choice(lacking)]))
            got = ask(*calls, *[[6, 0, booth] for booth in range(4)], vo_order())[len(calls):]
            self.assertEqual(got, [[-11]] * 4 + [[1] + order_row(*searched(vote.ballots, vote.candidates))])

    def test_in_whichever_order_however_often(self):
        for seed in range(100):
            source = random.Random(seed)
            vote = Vote(source)
            heard = source.sample(vote.messages, source.randrange(len(vote.messages) + 1))
            seen = look(vote.candidates, 4)
            want = None
            for turn in range(4):
                sent = heard + (source.choices(heard, k=5) if heard else [])
                sent += [spoiled(source, numbers) for numbers in source.choices(vote.messages, k=2)]
                source.shuffle(sent)
                calls = [vo_start(vote.candidates, 4)]
                for numbers in sent:
                    calls += [vo_heard(numbers)] + source.sample(seen, source.randrange(3))
                # Whatever is heard later is new, or isn't, by what was heard before alone.
                later = seen + [vo_heard(numbers) for numbers in vote.messages] + seen
                got = ask(*calls, *later)[len(calls):]
                want = want or got
                self.assertEqual(got, want)


if __name__ == "__main__":
    unittest.main()
