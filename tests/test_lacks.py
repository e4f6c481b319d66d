import itertools
import unittest

from lists import (HIGHEST, NOT_CLOSED, NOTHING_LACKS, WRONG, ask, cast, look, shut, vb_close, vb_start, vb_vote,
                   vo_heard, vo_lacks, vo_order, vo_start)


class Lacks(unittest.TestCase):
    """Point 7."""

    def test_a_booth_that_is_not_below_booths(self):
        for booths in range(1, 9):
            got = ask(vo_start(2, booths), *[vo_lacks(booth) for booth in (booths, 8, 255, 256, 2 ** 31, HIGHEST)],
                      vo_lacks(booths - 1))
            self.assertEqual(got[1:], [[WRONG]] * 6 + [[NOT_CLOSED]], booths)

    def test_a_booth_that_is_not_below_booths_when_all_are_whole(self):
        got = ask(vo_start(2, 2), shut(0, 0), shut(1, 1), cast(1, 0, 1, 2), vo_lacks(2), vo_lacks(258), vo_lacks(1))
        self.assertEqual(got[4:], [[WRONG], [WRONG], [NOTHING_LACKS]])

    def test_no_closing(self):
        got = ask(vo_start(2, 2), vo_lacks(0), cast(0, 0, 1, 2), vo_lacks(0), cast(0, 2, 1, 2), vo_lacks(0),
                  shut(1, 3), vo_lacks(0), vo_lacks(1))
        self.assertEqual(got[1:], [[NOT_CLOSED], [1], [NOT_CLOSED], [1], [NOT_CLOSED], [1], [NOT_CLOSED], [0]])

    def test_a_closing_with_no_ballots(self):
        self.assertEqual(ask(vo_start(2, 1), shut(0, 0), vo_lacks(0))[1:], [[1], [NOTHING_LACKS]])

    def test_a_closing_with_no_ballots_and_one_heard(self):
        got = ask(vo_start(2, 1), cast(0, 0, 1, 2), shut(0, 0), vo_lacks(0))
        self.assertEqual(got[1:], [[1], [1], [NOTHING_LACKS]])

    def test_ballots_in_any_order(self):
        for numbers in itertools.permutations(range(4)):
            for ahead in range(5):
                calls = [cast(0, number, 1, 2) for number in numbers]
                got = ask(vo_start(2, 1), *calls[:ahead], shut(0, 4), vo_lacks(0),
                          *itertools.chain(*[(call, vo_lacks(0)) for call in calls[ahead:]]))
                told = got[ahead + 2::2]
                want = [sorted(set(range(4)) - set(numbers[:heard])) for heard in range(ahead, 5)]
                self.assertEqual(told, [lacking[:1] or [NOTHING_LACKS] for lacking in want], (numbers, ahead))

    def test_a_ballot_at_or_above_the_closings_number(self):
        got = ask(vo_start(2, 1), shut(0, 2), cast(0, 2, 1, 2), vo_lacks(0), cast(0, 3, 1, 2), cast(0, 4095, 1, 2),
                  vo_lacks(0), cast(0, 0, 1, 2), vo_lacks(0), cast(0, 1, 1, 2), vo_lacks(0))
        self.assertEqual(got[2:], [[1], [0], [1], [1], [0], [1], [1], [1], [NOTHING_LACKS]])

    def test_another_booths_ballots_are_not_its_own(self):
        got = ask(vo_start(2, 3), *[shut(booth, 1) for booth in range(3)], cast(1, 0, 1, 2),
                  *[vo_lacks(booth) for booth in range(4)])
        self.assertEqual(got[5:], [[0], [NOTHING_LACKS], [0], [WRONG]])

    def test_a_ballot_heard_twice_makes_up_for_none(self):
        got = ask(vo_start(2, 1), shut(0, 2), cast(0, 0, 1, 2), cast(0, 0, 2, 1), vo_lacks(0))
        self.assertEqual(got[2:], [[1], [0], [1]])

    def test_asking_changes_nothing(self):
        heard = [vo_start(2, 2), cast(0, 1, 1, 2), shut(0, 2)]
        asked = [vo_lacks(booth) for booth in (0, 1, 2, HIGHEST)]
        self.assertEqual(ask(*heard, *asked, *look(2, 2))[7:], ask(*heard, *look(2, 2))[3:])

    def test_as_many_ballots_as_there_may_be(self):
        # This list is longer than the 30,000 numbers of the interface, in which no 4,096 ballots can be heard.
        told = ask(vb_start(0, 2), *[vb_vote([1, 2] + [0] * 6)] * 4096, vb_close())
        heard = [vo_heard(answer[1:]) for answer in told[1:]]
        got = ask(vo_start(2, 1), heard[-1], *heard[:-2], vo_lacks(0), vo_order(), heard[-2], vo_lacks(0), vo_order())
        self.assertEqual(got[1:4097], [[1]] * 4096)
        row = [0, 1] + [255] * 6
        self.assertEqual(got[4097:], [[4095], [0] + row, [1], [NOTHING_LACKS], [1] + row])


if __name__ == "__main__":
    unittest.main()
