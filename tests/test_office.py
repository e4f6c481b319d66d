import unittest

from lists import (HIGHEST, NOT_CLOSED, NOT_RIGHT, NOTHING_LACKS, WRONG, ask, ballot, cast, look, order_row, ranks_of,
                   shut, vb_again, vb_start, vb_vote, vo_against, vo_lacks, vo_order, vo_prefer, vo_start)
from oneorder.office import Office


class Start(unittest.TestCase):
    """Point 5."""

    def test_candidates(self):
        for candidates in range(2, 9):
            self.assertEqual(ask(vo_start(candidates, 3)), [[0]], candidates)
        for candidates in (0, 1, 9, 256, 258, HIGHEST):
            self.assertEqual(ask(vo_start(candidates, 3)), [[WRONG]], candidates)

    def test_booths(self):
        for booths in range(1, 9):
            self.assertEqual(ask(vo_start(3, booths)), [[0]], booths)
        for booths in (0, 9, 256, 257, HIGHEST):
            self.assertEqual(ask(vo_start(3, booths)), [[WRONG]], booths)

    def test_edges_together(self):
        for candidates in (1, 2, 8, 9):
            for booths in (0, 1, 8, 9):
                right = candidates in (2, 8) and booths in (1, 8)
                self.assertEqual(ask(vo_start(candidates, booths)), [[0 if right else WRONG]], (candidates, booths))

    def test_again(self):
        got = ask(vo_start(1, 1), vo_start(2, 1), vo_start(8, 8), vo_start(9, 8), vo_start(8, 9), vo_start(3, 3))
        self.assertEqual(got, [[WRONG], [0], [0], [WRONG], [WRONG], [0]])

    def test_the_booths_are_not_touched(self):
        ranks = ranks_of(1, 2)
        got = ask(vb_start(5, 2), vb_vote(ranks), vo_start(3, 3), vb_again(0), vo_start(3, 9), vb_vote(ranks))
        self.assertEqual(got[2:], [[0], ballot(5, 0, ranks), [WRONG], ballot(5, 1, ranks)])


class Again(unittest.TestCase):
    """Point 5, by what the office tells afterwards."""

    heard = [vo_start(3, 2), cast(0, 0, 3, 2, 1), cast(1, 1, 3, 2, 1), shut(0, 1), shut(1, 1), cast(1, 0, 3, 1, 1)]

    def test_taken_has_heard_nothing(self):
        for asked in ([], [vo_order()]):
            got = ask(*self.heard, *asked, vo_start(3, 2), *look(3, 2))[len(self.heard) + len(asked):]
            self.assertEqual(got, [[0], [0] + order_row(0, 1, 2), [NOT_CLOSED], [NOT_CLOSED]] + [[0]] * 9)

    def test_taken_hears_all_anew(self):
        later = self.heard[1:] + look(3, 2)
        got = ask(*self.heard, vo_order(), vo_start(3, 2), *later)[len(self.heard) + 2:]
        self.assertEqual(got, ask(vo_start(3, 2), *later)[1:])
        self.assertEqual(got[:6], [[1]] * 5 + [[1] + order_row(2, 1, 0)])

    def test_taken_has_other_candidates_and_booths(self):
        got = ask(*self.heard, vo_order(), vo_start(4, 1), vo_order(), vo_lacks(0), vo_lacks(1), vo_prefer(3, 0),
                  cast(0, 0, 3, 2, 1), cast(0, 0, 4, 3, 2, 1), cast(1, 0, 4, 3, 2, 1), vo_prefer(3, 0), vo_order(),
                  vo_against(order_row(0, 1, 2)), vo_against(order_row(0, 1, 2, 3)))[len(self.heard) + 2:]
        self.assertEqual(got, [[0] + order_row(0, 1, 2, 3), [NOT_CLOSED], [WRONG], [0], [NOT_RIGHT], [1], [NOT_RIGHT],
                               [1], [0] + order_row(3, 2, 1, 0), [WRONG], [6]])

    def test_taken_with_fewer_candidates(self):
        got = ask(*self.heard, vo_order(), vo_start(2, 2), vo_order(), vo_prefer(2, 0), cast(1, 0, 3, 2, 1),
                  cast(1, 0, 2, 1), vo_order())[len(self.heard) + 2:]
        self.assertEqual(got, [[0] + order_row(0, 1), [WRONG], [NOT_RIGHT], [1], [0] + order_row(1, 0)])

    def test_refused_leaves_all_as_it_was(self):
        later = look(3, 2) + [cast(1, 2, 1, 2, 3), cast(0, 0, 3, 2, 1), shut(0, 9)] + look(3, 2)
        want = ask(*self.heard, *later)[len(self.heard):]
        self.assertEqual(want[:3], [[1] + order_row(2, 1, 0), [NOTHING_LACKS], [NOTHING_LACKS]])
        for candidates, booths in ((1, 2), (9, 2), (3, 0), (3, 9), (0, 0), (HIGHEST, HIGHEST)):
            got = ask(*self.heard, vo_start(candidates, booths), *later)[len(self.heard):]
            self.assertEqual(got, [[WRONG]] + want, (candidates, booths))

    def test_refused_first_and_taken_then(self):
        got = ask(vo_start(9, 1), vo_start(2, 0), *self.heard, vo_order())
        self.assertEqual(got[:3], [[WRONG], [WRONG], [0]])
        self.assertEqual(got[-1], [1] + order_row(2, 1, 0))


class Kept(unittest.TestCase):
    """Point 5, by what the office has."""

    def setUp(self):
        self.office = Office()
        self.office.start(3, 2)

    def has(self):
        return (self.office.candidates, self.office.booths, self.office.ballots, self.office.closings)

    def hear_something(self):
        self.office.ballots[(1, 0)] = ranks_of(1, 2, 3)
        self.office.closings[1] = 1

    def test_taken(self):
        self.assertEqual(self.has(), (3, 2, {}, {}))

    def test_again_taken_has_heard_nothing(self):
        self.hear_something()
        self.assertEqual(self.office.start(8, 1), [0])
        self.assertEqual(self.has(), (8, 1, {}, {}))

    def test_again_refused_leaves_all_as_it_was(self):
        self.hear_something()
        for candidates, booths in ((1, 1), (9, 1), (4, 0), (4, 9), (HIGHEST, HIGHEST)):
            self.assertEqual(self.office.start(candidates, booths), [WRONG])
            self.assertEqual(self.has(), (3, 2, {(1, 0): ranks_of(1, 2, 3)}, {1: 1}))


if __name__ == "__main__":
    unittest.main()
