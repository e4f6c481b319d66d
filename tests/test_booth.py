import unittest

from lists import (CLOSED, FULL, HIGHEST, NOT_THERE, WRONG, ask, ballot, closing, ranks_of, vb_again,
                   vb_close, vb_start, vb_vote)
from oneorder.booth import Booth

ABC = ranks_of(1, 2, 3)
CBA = ranks_of(3, 2, 1)


class Start(unittest.TestCase):
    """Point 1."""

    def test_me(self):
        for me in range(8):
            self.assertEqual(ask(vb_start(me, 2)), [[0]], me)
        for me in (8, 9, 255, 256, 263, HIGHEST):
            self.assertEqual(ask(vb_start(me, 2)), [[WRONG]], me)

    def test_candidates(self):
        for candidates in range(2, 9):
            self.assertEqual(ask(vb_start(7, candidates)), [[0]], candidates)
        for candidates in (0, 1, 9, 256, 258, HIGHEST):
            self.assertEqual(ask(vb_start(7, candidates)), [[WRONG]], candidates)

    def test_both_wrong(self):
        self.assertEqual(ask(vb_start(8, 1)), [[WRONG]])

    def test_refused_then_taken(self):
        got = ask(vb_start(8, 3), vb_start(0, 9), vb_start(6, 3), vb_vote(ABC))
        self.assertEqual(got, [[WRONG], [WRONG], [0], ballot(6, 0, ABC)])

    def test_begins_empty(self):
        self.assertEqual(ask(vb_start(0, 2), vb_again(0), vb_close()), [[0], [NOT_THERE], closing(0, 0)])

    def test_again_taken_is_empty_and_open(self):
        got = ask(vb_start(1, 3), vb_vote(ABC), vb_vote(CBA), vb_close(), vb_start(1, 3), vb_again(0), vb_again(1),
                  vb_vote(CBA), vb_close())
        self.assertEqual(got[4:], [[0], [NOT_THERE], [NOT_THERE], ballot(1, 0, CBA), closing(1, 1)])

    def test_again_taken_is_another_booth_with_other_candidates(self):
        two = ranks_of(2, 1)
        got = ask(vb_start(1, 3), vb_start(2, 2), vb_vote(ABC), vb_vote(two), vb_again(0), vb_close())
        self.assertEqual(got[1:], [[0], [WRONG], ballot(2, 0, two), ballot(2, 0, two), closing(2, 1)])

    def test_again_refused_leaves_an_unclosed_booth_as_it_was(self):
        for refused in (vb_start(8, 2), vb_start(5, 1), vb_start(5, 9), vb_start(HIGHEST, HIGHEST)):
            got = ask(vb_start(1, 3), vb_vote(ABC), refused, vb_again(0), vb_vote(CBA), vb_close())
            self.assertEqual(got[2:], [[WRONG], ballot(1, 0, ABC), ballot(1, 1, CBA), closing(1, 2)], refused)

    def test_again_refused_leaves_a_closed_booth_as_it_was(self):
        for refused in (vb_start(8, 2), vb_start(5, 1), vb_start(5, 9), vb_start(HIGHEST, HIGHEST)):
            got = ask(vb_start(1, 3), vb_vote(ABC), vb_close(), refused, vb_vote(CBA), vb_again(0), vb_close())
            self.assertEqual(got[3:], [[WRONG], [CLOSED], ballot(1, 0, ABC), closing(1, 1)], refused)


class Vote(unittest.TestCase):
    """Point 2."""

    def test_message_byte_by_byte(self):
        # The checks were reckoned by a processor's own CRC-32C instruction.
        got = ask(vb_start(5, 3), vb_vote([2, 1, 2, 0, 0, 0, 0, 0]), vb_vote([3, 3, 3, 0, 0, 0, 0, 0]))
        self.assertEqual(got[1], [0, 1, 5, 0, 0, 0, 0, 0, 0, 2, 1, 2, 0, 0, 0, 0, 0, 165, 158, 210, 109])
        self.assertEqual(got[2], [1, 1, 5, 0, 0, 1, 0, 0, 0, 3, 3, 3, 0, 0, 0, 0, 0, 59, 5, 169, 42])
        got = ask(vb_start(7, 8), vb_vote([8, 7, 6, 5, 4, 3, 2, 1]))
        self.assertEqual(got[1], [0, 1, 7, 0, 0, 0, 0, 0, 0, 8, 7, 6, 5, 4, 3, 2, 1, 116, 162, 233, 41])

    def test_a_number_of_two_bytes(self):
        two = ranks_of(1, 2)
        got = ask(vb_start(0, 2), *[vb_vote(two)] * 258)
        self.assertEqual(got[256], ballot(0, 255, two))
        self.assertEqual(got[257], [256, 1, 0, 0, 0, 0, 1, 0, 0, 1, 2, 0, 0, 0, 0, 0, 0, 98, 68, 55, 190])
        self.assertEqual(got[258], ballot(0, 257, two))

    def test_every_rank_in_every_place(self):
        for candidates in range(2, 9):
            for place in range(8):
                for rank in (0, 1, 2, candidates - 1, candidates, candidates + 1, 8, 9, 128, 255):
                    ranks = ranks_of(*[1] * candidates)
                    ranks[place] = rank
                    right = 1 <= rank <= candidates if place < candidates else rank == 0
                    want = ballot(3, 0, ranks) if right else [WRONG]
                    got = ask(vb_start(3, candidates), vb_vote(ranks))
                    self.assertEqual(got[1], want, (candidates, ranks))

    def test_ties_and_left_out_ranks(self):
        for ranks in (ranks_of(1, 1, 1, 1), ranks_of(4, 4, 4, 4), ranks_of(2, 4, 2, 4), ranks_of(1, 4, 1, 1)):
            self.assertEqual(ask(vb_start(0, 4), vb_vote(ranks))[1], ballot(0, 0, ranks))

    def test_none_ranked(self):
        self.assertEqual(ask(vb_start(0, 2), vb_vote([0] * 8)), [[0], [WRONG]])

    def test_refused_leaves_all_as_it_was(self):
        got = ask(vb_start(2, 3), vb_vote(ranks_of(1, 2, 4)), vb_again(0), vb_vote(ABC), vb_vote(ranks_of(1, 2)),
                  vb_again(0), vb_again(1), vb_vote(CBA), vb_close())
        self.assertEqual(got[1:], [[WRONG], [NOT_THERE], ballot(2, 0, ABC), [WRONG], ballot(2, 0, ABC), [NOT_THERE],
                                   ballot(2, 1, CBA), closing(2, 2)])

    def test_the_same_ballot_twice_is_two(self):
        got = ask(vb_start(2, 3), vb_vote(ABC), vb_vote(ABC), vb_close())
        self.assertEqual(got[1:], [ballot(2, 0, ABC), ballot(2, 1, ABC), closing(2, 2)])

    def test_at_a_closed_booth(self):
        got = ask(vb_start(2, 3), vb_vote(ABC), vb_close(), vb_vote(CBA), vb_again(1), vb_close())
        self.assertEqual(got[3:], [[CLOSED], [NOT_THERE], closing(2, 1)])

    def test_wrong_ranks_at_a_closed_booth(self):
        got = ask(vb_start(2, 3), vb_close(), vb_vote(ranks_of(1, 2, 4)), vb_vote(ranks_of(1, 2, 3, 1)), vb_vote(ABC))
        self.assertEqual(got[2:], [[WRONG], [WRONG], [CLOSED]])

    def test_a_booth_keeps_its_own_copy(self):
        booth = Booth()
        booth.start(0, 3)
        ranks = list(ABC)
        booth.vote(ranks)
        ranks[0] = 3
        self.assertEqual(booth.again(0), ballot(0, 0, ABC))


class Full(unittest.TestCase):
    """Point 2's -28. These lists are longer than the 30,000 numbers of the interface, in which no booth gets full."""

    def filled(self, *calls):
        """The answers behind the start, with 4,096 votes ahead of these calls."""
        return ask(vb_start(7, 8), *[vb_vote([8, 7, 6, 5, 4, 3, 2, 1])] * 4096, *calls)[1:]

    def test_the_last_ballot_and_the_one_behind_it(self):
        ranks = [8, 7, 6, 5, 4, 3, 2, 1]
        got = self.filled(vb_vote(ranks), vb_again(4096), vb_again(4095), vb_vote(ranks_of(1)), vb_close(),
                          vb_vote(ranks), vb_vote(ranks_of(1)))
        for number in range(4095):
            self.assertEqual(got[number][0], number)
        last = [4095, 1, 7, 0, 0, 255, 15, 0, 0, 8, 7, 6, 5, 4, 3, 2, 1, 236, 168, 18, 241]
        self.assertEqual(got[4095], last)
        self.assertEqual(got[4096:], [
            [FULL], [NOT_THERE], last, [WRONG],
            [4096, 2, 7, 0, 0, 0, 16, 0, 0, 0, 0, 0, 0, 0, 0, 0, 0, 120, 207, 80, 205],
            [CLOSED], [WRONG]])

    def test_a_full_booth_started_again_takes_ballots(self):
        got = self.filled(vb_start(8, 8), vb_vote([1] * 8), vb_start(7, 8), vb_vote([1] * 8))
        self.assertEqual(got[4096:], [[WRONG], [FULL], [0], ballot(7, 0, [1] * 8)])

    def test_another_booth_is_not_full(self):
        got = self.filled(vb_start(6, 3, at=1), vb_vote(ABC, at=1), vb_vote([1] * 8))
        self.assertEqual(got[4096:], [[0], ballot(6, 0, ABC), [FULL]])


class Close(unittest.TestCase):
    """Point 3."""

    def test_an_empty_booth(self):
        got = ask(vb_start(5, 3), vb_close())
        self.assertEqual(got[1], [0, 2, 5, 0, 0, 0, 0, 0, 0, 0, 0, 0, 0, 0, 0, 0, 0, 19, 136, 221, 95])

    def test_a_booth_with_ballots(self):
        got = ask(vb_start(5, 3), vb_vote(ABC), vb_vote(CBA), vb_close())
        self.assertEqual(got[3], [2, 2, 5, 0, 0, 2, 0, 0, 0, 0, 0, 0, 0, 0, 0, 0, 0, 115, 32, 62, 61])

    def test_twice(self):
        got = ask(vb_start(5, 3), vb_vote(ABC), vb_close(), vb_close(), vb_vote(ABC), vb_close())
        self.assertEqual(got[2:], [closing(5, 1), closing(5, 1), [CLOSED], closing(5, 1)])

    def test_an_empty_booth_twice(self):
        got = ask(vb_start(5, 3), vb_close(), vb_close(), vb_vote(ABC))
        self.assertEqual(got[1:], [closing(5, 0), closing(5, 0), [CLOSED]])

    def test_every_booth_and_every_count(self):
        for me in range(8):
            got = ask(vb_start(me, 3), *[vb_vote(ABC)] * (me * 40), vb_close())
            self.assertEqual(got[-1], closing(me, me * 40))


class Again(unittest.TestCase):
    """Point 4."""

    def test_a_ballot_that_is_there(self):
        got = ask(vb_start(4, 3), vb_vote(ABC), vb_vote(CBA), vb_again(1), vb_again(0), vb_again(0))
        self.assertEqual(got[3:], [ballot(4, 1, CBA), ballot(4, 0, ABC), ballot(4, 0, ABC)])

    def test_it_is_what_the_vote_answered(self):
        rows = [[1 + (vote * 7 + place * vote) % 8 for place in range(8)] for vote in range(300)]
        got = ask(vb_start(4, 8), *[vb_vote(row) for row in rows], *[vb_again(number) for number in range(300)])
        self.assertEqual(got[1:301], got[301:])

    def test_one_that_is_not(self):
        got = ask(vb_start(4, 3), vb_vote(ABC), vb_vote(CBA), vb_again(2), vb_again(256), vb_again(2147483648),
                  vb_again(HIGHEST))
        self.assertEqual(got[3:], [[NOT_THERE]] * 4)

    def test_after_the_closing(self):
        got = ask(vb_start(4, 3), vb_vote(ABC), vb_close(), vb_again(0), vb_again(1), vb_again(HIGHEST))
        self.assertEqual(got[3:], [ballot(4, 0, ABC), [NOT_THERE], [NOT_THERE]])

    def test_it_adds_no_ballot_and_does_not_close(self):
        got = ask(vb_start(4, 3), vb_vote(ABC), vb_again(0), vb_again(1), vb_vote(CBA), vb_close())
        self.assertEqual(got[4:], [ballot(4, 1, CBA), closing(4, 2)])


if __name__ == "__main__":
    unittest.main()
