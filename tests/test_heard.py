import unittest

from lists import (CLOSED, HIGHEST, NOT_CLOSED, NOT_RIGHT, NOTHING_LACKS, ask, cast, checked, look, message, ranks_of,
                   shut, vb_close, vb_start, vb_vote, vo_heard, vo_lacks, vo_order, vo_prefer, vo_start)
from oneorder.messages import is_right

ABC = ranks_of(1, 2, 3)


class Kept(unittest.TestCase):
    """Point 6: what is right."""

    def test_byte_by_byte(self):
        # The checks were reckoned by a processor's own CRC-32C instruction.
        ballot = [1, 5, 0, 0, 1, 0, 0, 0, 3, 3, 3, 0, 0, 0, 0, 0, 59, 5, 169, 42]
        closing = [2, 5, 0, 0, 2, 0, 0, 0, 0, 0, 0, 0, 0, 0, 0, 0, 115, 32, 62, 61]
        got = ask(vo_start(3, 6), vo_heard(ballot), vo_heard(closing), vo_heard(ballot), vo_heard(closing))
        self.assertEqual(got, [[0], [1], [1], [0], [0]])

    def test_the_same_once_more(self):
        got = ask(vo_start(3, 1), cast(0, 0, 1, 2, 3), cast(0, 0, 1, 2, 3), shut(0, 1), shut(0, 1), cast(0, 0, 1, 2, 3),
                  vo_prefer(0, 1), vo_lacks(0))
        self.assertEqual(got[1:], [[1], [0], [1], [0], [0], [1], [NOTHING_LACKS]])

    def test_other_ranks_of_the_same_ballot(self):
        got = ask(vo_start(3, 1), cast(0, 7, 1, 2, 3), cast(0, 7, 3, 2, 1), vo_prefer(0, 2), vo_prefer(2, 0),
                  vo_order(), cast(0, 7, 1, 2, 3))
        self.assertEqual(got[1:], [[1], [0], [1], [0], [0, 0, 1, 2, 255, 255, 255, 255, 255], [0]])

    def test_another_number_of_the_same_booths_closing(self):
        for first, other in ((2, 1), (2, 3), (2, 0), (0, 2), (2, 4096)):
            want = [NOTHING_LACKS] if first == 0 else [0]
            got = ask(vo_start(3, 1), shut(0, first), shut(0, other), vo_lacks(0), shut(0, first))
            self.assertEqual(got[1:], [[1], [0], want, [0]], (first, other))

    def test_another_closing_keeps_the_first_ones_number(self):
        got = ask(vo_start(2, 1), shut(0, 2), shut(0, 1), cast(0, 0, 1, 2), vo_lacks(0), cast(0, 1, 1, 2), vo_lacks(0))
        self.assertEqual(got[1:], [[1], [0], [1], [1], [1], [NOTHING_LACKS]])
        got = ask(vo_start(2, 1), shut(0, 1), shut(0, 2), cast(0, 0, 1, 2), vo_lacks(0))
        self.assertEqual(got[1:], [[1], [0], [1], [NOTHING_LACKS]])

    def test_one_ballot_each_by_booth_and_number(self):
        got = ask(vo_start(2, 8), *[cast(booth, number, 1, 2) for booth in range(8) for number in (0, 1, 256, 4095)],
                  vo_prefer(0, 1))
        self.assertEqual(got[1:], [[1]] * 32 + [[32]])

    def test_one_closing_of_each_booth(self):
        got = ask(vo_start(2, 8), *[shut(booth, booth) for booth in range(8)], *[vo_lacks(at) for at in range(8)])
        self.assertEqual(got[1:], [[1]] * 8 + [[NOTHING_LACKS]] + [[0]] * 7)

    def test_a_ballot_behind_the_closing(self):
        got = ask(vo_start(2, 1), shut(0, 1), cast(0, 0, 1, 2), cast(0, 1, 1, 2), cast(0, 1, 1, 2), vo_prefer(0, 1))
        self.assertEqual(got[1:], [[1], [1], [1], [0], [2]])

    def test_what_a_booth_told(self):
        told = ask(vb_start(5, 3), vb_vote(ABC), vb_vote(ranks_of(2, 2, 2)), vb_close())
        got = ask(vo_start(3, 6), *[vo_heard(answer[1:]) for answer in told[1:]], vo_lacks(5), vo_prefer(0, 1))
        self.assertEqual(got[1:], [[1], [1], [1], [NOTHING_LACKS], [1]])

    def test_every_rank_there_may_be(self):
        for candidates in range(2, 9):
            calls = []
            for place in range(candidates):
                for rank in range(1, candidates + 1):
                    ranks = [1] * candidates
                    ranks[place] = rank
                    calls.append(cast(0, len(calls), *ranks))
            self.assertEqual(ask(vo_start(candidates, 1), *calls)[1:], [[1]] * len(calls))


class Refused(unittest.TestCase):
    """Point 6: -71, after which all is as it was."""

    def refuse(self, candidates, booths, *messages):
        """Hands these messages to an office that heard something, and looks whether that's all it has."""
        heard = [cast(0, 1, *range(1, candidates + 1)), shut(0, 2)]
        later = look(candidates, booths) + [cast(0, 0, *range(candidates, 0, -1))] + look(candidates, booths)
        refused = [vo_heard(numbers) for numbers in messages]
        got = ask(vo_start(candidates, booths), *heard, *refused, *later)
        self.assertEqual(got[1:3], [[1], [1]])
        for numbers, answer in zip(messages, got[3:]):
            self.assertEqual(answer, [NOT_RIGHT], (candidates, booths, numbers))
        self.assertEqual(got[3 + len(messages):], ask(vo_start(candidates, booths), *heard, *later)[3:])

    def refuse_new(self, candidates, booths, wrong, mended):
        """As refuse, and the message is taken once its fault is mended."""
        self.refuse(candidates, booths, wrong)
        self.assertEqual(ask(vo_start(candidates, booths), vo_heard(wrong), vo_heard(mended)),
                         [[0], [NOT_RIGHT], [1]], wrong)

    def test_each_number_changed_by_itself(self):
        for numbers in (message(1, 0, 0, ABC), message(2, 1, 3, [0] * 8), message(1, 1, 4095, ranks_of(3, 3, 3)),
                        message(2, 1, 4096, [0] * 8)):
            self.assertEqual(ask(vo_start(3, 2), vo_heard(numbers)), [[0], [1]])
            for place in range(20):
                changed = [numbers[:place] + [other] + numbers[place + 1:]
                           for other in range(256) if other != numbers[place]]
                self.refuse(3, 2, *changed)

    def test_each_number_of_what_was_heard_changed_by_itself(self):
        for numbers in (message(1, 0, 1, ABC), message(2, 0, 2, [0] * 8)):
            self.refuse(3, 2, *[numbers[:place] + [numbers[place] ^ 1] + numbers[place + 1:] for place in range(20)])

    def test_a_check_written_otherwise(self):
        numbers = message(1, 0, 0, ABC)
        check = numbers[16:]
        for other in (check[::-1], [byte ^ 255 for byte in check], [0] * 4, [255] * 4):
            self.refuse_new(3, 2, numbers[:16] + other, numbers)

    def test_all_zeros_and_all_ones(self):
        self.refuse(3, 2, [0] * 20, [255] * 20, checked([0] * 16), checked([255] * 16))

    def test_kind(self):
        for kind in [0] + list(range(3, 256)):
            self.refuse(3, 2, message(kind, 0, 0, ABC), message(kind, 0, 0, [0] * 8))

    def test_a_ballot_as_a_closing_and_a_closing_as_a_ballot(self):
        self.refuse_new(3, 2, message(2, 1, 0, ABC), message(1, 1, 0, ABC))
        self.refuse_new(3, 2, message(1, 1, 0, [0] * 8), message(2, 1, 0, [0] * 8))

    def test_a_booth_above_7(self):
        for booth in [8, 9, 15, 16, 128, 135, 254, 255]:
            self.refuse_new(3, 8, message(1, booth, 0, ABC), message(1, 7, 0, ABC))
            self.refuse_new(3, 8, message(2, booth, 0, [0] * 8), message(2, 7, 0, [0] * 8))

    def test_a_message_of_a_booth_above_7_is_not_right_whatever_the_office_has(self):
        for kind, row in ((1, ABC), (2, [0] * 8)):
            for booth in range(256):
                self.assertIs(is_right(message(kind, booth, 0, row), 3), booth < 8)

    def test_a_booth_that_is_not_below_booths(self):
        for booths in range(1, 9):
            for booth in range(booths, 9):
                last = booths - 1
                self.refuse_new(3, booths, message(1, booth, 0, ABC), message(1, last, 0, ABC))
                self.refuse_new(3, booths, message(2, booth, 1, [0] * 8), message(2, last, 1, [0] * 8))

    def test_a_ballots_number(self):
        for number in (4096, 4097, 8191, 65535, 65536, 2 ** 16 + 4095, 2 ** 24, 2 ** 31, HIGHEST):
            self.refuse_new(3, 2, message(1, 1, number, ABC), message(1, 1, 4095, ABC))

    def test_a_closings_number(self):
        for number in (4097, 4098, 8192, 65535, 65536, 2 ** 16 + 4096, 2 ** 24, 2 ** 31, HIGHEST):
            self.refuse_new(3, 2, message(2, 1, number, [0] * 8), message(2, 1, 4096, [0] * 8))

    def test_ranks(self):
        for candidates in range(2, 9):
            mended = ranks_of(*[candidates] * candidates)
            for place in range(candidates):
                for rank in (0, candidates + 1, candidates + 2, 128, 255):
                    ranks = list(mended)
                    ranks[place] = rank
                    self.refuse_new(candidates, 2, message(1, 1, 0, ranks), message(1, 1, 0, mended))

    def test_a_rank_behind_the_last_candidates(self):
        for candidates in range(2, 8):
            mended = ranks_of(*[1] * candidates)
            for place in range(candidates, 8):
                for rank in (1, candidates, 8, 255):
                    ranks = list(mended)
                    ranks[place] = rank
                    self.refuse_new(candidates, 2, message(1, 1, 0, ranks), message(1, 1, 0, mended))

    def test_each_place_that_is_told_as_0(self):
        for numbers, places in ((message(1, 1, 0, ABC), [2, 3]), (message(2, 1, 3, [0] * 8), [2, 3, *range(8, 16)])):
            for place in places:
                for other in (1, 2, 128, 255):
                    changed = list(numbers[:16])
                    changed[place] = other
                    self.refuse_new(3, 2, checked(changed), numbers)

    def test_a_booth_with_other_candidates(self):
        for theirs in range(2, 9):
            told = ask(vb_start(1, theirs), vb_vote(ranks_of(*range(1, theirs + 1))), vb_vote(ranks_of(*[1] * theirs)))
            for ours in range(2, 9):
                if ours != theirs:
                    self.refuse(ours, 2, told[1][1:], told[2][1:])
                else:
                    got = ask(vo_start(ours, 2), vo_heard(told[1][1:]), vo_heard(told[2][1:]))
                    self.assertEqual(got[1:], [[1], [1]])

    def test_a_closing_is_right_with_any_candidates(self):
        for candidates in range(2, 9):
            self.assertEqual(ask(vo_start(candidates, 2), shut(1, 4096))[1], [1])

    def test_before_anything_was_heard(self):
        got = ask(vo_start(2, 1), cast(0, 4096, 1, 2), shut(0, 4097), cast(1, 0, 1, 2), shut(1, 0), *look(2, 1))
        self.assertEqual(got[1:5], [[NOT_RIGHT]] * 4)
        self.assertEqual(got[5:], [[0, 0, 1] + [255] * 6, [NOT_CLOSED]] + [[0]] * 4)

    def test_no_booth_is_touched(self):
        got = ask(vb_start(0, 3), vo_start(3, 1), vb_close(), shut(0, 5), vb_close(), vb_vote(ABC), vo_lacks(0))
        self.assertEqual([answer[0] for answer in got], [0, 0, 0, 1, 0, CLOSED, 0])


if __name__ == "__main__":
    unittest.main()
