import itertools
import random
import unittest

from lists import (HIGHEST, NOT_RIGHT, WRONG, ask, cast, look, order_row, shut, vo_against, vo_lacks, vo_order,
                   vo_prefer, vo_start)
from model import against, preferring, searched

# Ballots that go round: as many put 0 before 1 as 1 before 2 and 2 before 0.
ROUND = [(1, 2, 3), (3, 1, 2), (2, 3, 1)]


def drawn_ballots(source, candidates, count):
    return [[source.randrange(1, candidates + 1) for place in range(candidates)] for vote in range(count)]


def heard(candidates, ballots):
    """The calls by which an office with one booth hears these ballots."""
    return [vo_start(candidates, 1)] + [cast(0, number, *ranks) for number, ranks in enumerate(ballots)]


def told(candidates, ballots, *calls):
    """What these calls are answered behind these ballots."""
    return ask(*heard(candidates, ballots), *calls)[1 + len(ballots):]


class Prefer(unittest.TestCase):
    """Point 8."""

    def test_the_last_candidate_and_the_one_behind_it(self):
        for candidates in range(2, 9):
            last = candidates - 1
            ballots = [range(1, candidates + 1)]
            got = told(candidates, ballots, vo_prefer(0, last), vo_prefer(last, 0), vo_prefer(last, last))
            self.assertEqual(got, [[1], [0], [0]], candidates)
            for beyond in (candidates, candidates + 1, 8, 255, 256, 2 ** 31, HIGHEST):
                got = told(candidates, ballots, vo_prefer(0, beyond), vo_prefer(beyond, 0), vo_prefer(beyond, beyond),
                           vo_prefer(last, beyond), vo_prefer(beyond, last), vo_prefer(beyond, HIGHEST))
                self.assertEqual(got, [[WRONG]] * 6, (candidates, beyond))

    def test_the_same_twice(self):
        ballots = [(1, 2, 3), (1, 1, 1), (3, 2, 1)]
        self.assertEqual(told(3, ballots, *[vo_prefer(x, x) for x in range(3)]), [[0]] * 3)

    def test_ties_count_neither_way(self):
        ballots = [(1, 1, 3), (2, 2, 2), (1, 3, 3), (3, 1, 1)]
        pairs = [(0, 1), (1, 0), (0, 2), (2, 0), (1, 2), (2, 1)]
        self.assertEqual(told(3, ballots, *[vo_prefer(*pair) for pair in pairs]), [[1], [1], [2], [1], [1], [0]])

    def test_no_ballots(self):
        for candidates in (2, 8):
            calls = [vo_prefer(x, y) for x in range(candidates) for y in range(candidates)]
            self.assertEqual(told(candidates, [], *calls), [[0]] * len(calls))
            self.assertEqual(told(candidates, [], vo_prefer(0, candidates), vo_prefer(candidates, 0)), [[WRONG]] * 2)

    def test_left_out_ranks(self):
        self.assertEqual(told(4, [(4, 1, 4, 2)], vo_prefer(3, 0), vo_prefer(1, 3), vo_prefer(0, 2)), [[1], [1], [0]])

    def test_counted_over_all_booths(self):
        got = ask(vo_start(2, 8), *[cast(booth, booth * 500, 1, 2) for booth in range(8)], cast(3, 0, 2, 1),
                  vo_prefer(0, 1), vo_prefer(1, 0))
        self.assertEqual(got[-2:], [[8], [1]])

    def test_drawn(self):
        source = random.Random(8)
        for candidates in range(2, 9):
            ballots = drawn_ballots(source, candidates, 20)
            pairs = list(itertools.product(range(candidates), repeat=2))
            self.assertEqual(told(candidates, ballots, *[vo_prefer(x, y) for x, y in pairs]),
                             [[preferring(ballots, x, y)] for x, y in pairs])

    def test_asking_changes_nothing(self):
        got = told(3, ROUND, vo_prefer(0, 1), vo_prefer(3, 0), vo_prefer(0, 1), *look(3, 1))
        self.assertEqual(got[:3], [[2], [WRONG], [2]])
        self.assertEqual(got[3:], told(3, ROUND, *look(3, 1)))


class Order(unittest.TestCase):
    """Point 9: the order."""

    def test_no_ballots(self):
        for candidates in range(2, 9):
            self.assertEqual(told(candidates, [], vo_order()), [[0] + order_row(*range(candidates))])

    def test_eight_numbers_written_out(self):
        self.assertEqual(told(2, [(2, 1)], vo_order()), [[0, 1, 0, 255, 255, 255, 255, 255, 255]])
        self.assertEqual(told(5, [(5, 3, 1, 4, 2)], vo_order()), [[0, 2, 4, 1, 3, 0, 255, 255, 255]])
        self.assertEqual(told(8, [(8, 7, 6, 5, 4, 3, 2, 1)], vo_order()), [[0, 7, 6, 5, 4, 3, 2, 1, 0]])

    def test_one_ballot_without_ties_is_its_order(self):
        source = random.Random(1)
        for candidates in range(2, 9):
            for draw in range(5):
                order = source.sample(range(candidates), candidates)
                ranks = [1 + order.index(candidate) for candidate in range(candidates)]
                self.assertEqual(told(candidates, [ranks], vo_order()), [[0] + order_row(*order)])

    def test_nobody_has_a_say(self):
        for candidates in range(2, 9):
            ballots = [[rank] * candidates for rank in range(1, candidates + 1)]
            self.assertEqual(told(candidates, ballots, vo_order()), [[0] + order_row(*range(candidates))])

    def test_the_first_of_two_least_orders(self):
        self.assertEqual(told(2, [(1, 2), (2, 1)], vo_order()), [[0] + order_row(0, 1)])
        self.assertEqual(told(3, [(2, 1, 1)], vo_order()), [[0] + order_row(1, 2, 0)])
        self.assertEqual(told(3, [(3, 3, 1)], vo_order()), [[0] + order_row(2, 0, 1)])

    def test_ballots_that_go_round(self):
        self.assertEqual(told(3, ROUND, vo_order()), [[0] + order_row(0, 1, 2)])
        other_way = [(3, 2, 1), (2, 1, 3), (1, 3, 2)]
        self.assertEqual(told(3, other_way, vo_order()), [[0] + order_row(0, 2, 1)])
        self.assertEqual(told(3, other_way + [(2, 1, 2)], vo_order()), [[0] + order_row(1, 0, 2)])

    def test_held_against_a_search_through_all_orders(self):
        source = random.Random(9)
        for candidates, draws in ((2, 60), (3, 120), (4, 120), (5, 60), (6, 20), (7, 5), (8, 2)):
            for draw in range(draws):
                ballots = drawn_ballots(source, candidates, source.randrange(1, 9))
                want = [0] + order_row(*searched(ballots, candidates))
                self.assertEqual(told(candidates, ballots, vo_order()), [want], ballots)

    def test_all_ballots_of_three_two_at_a_time(self):
        rows = list(itertools.product((1, 2, 3), repeat=3))
        for ballots in itertools.combinations_with_replacement(rows, 2):
            self.assertEqual(told(3, ballots, vo_order()), [[0] + order_row(*searched(ballots, 3))], ballots)

    def test_it_goes_by_how_many_and_not_by_who_wins_most(self):
        ballots = [(1, 2, 3, 4)] * 5 + [(4, 1, 2, 3)] * 3 + [(3, 4, 1, 2)] * 3
        self.assertEqual(told(4, ballots, vo_order()), [[0] + order_row(*searched(ballots, 4))])

    def test_told_anew_at_each_ballot(self):
        ballots = [(1, 2, 3), (3, 2, 1), (3, 2, 1), (2, 1, 3), (2, 1, 3), (2, 1, 3)]
        calls = [vo_start(3, 1), vo_order()]
        for number, ranks in enumerate(ballots):
            calls += [cast(0, number, *ranks), vo_order(), vo_order()]
        got = ask(*calls)
        for count in range(1, 7):
            want = [0] + order_row(*searched(ballots[:count], 3))
            self.assertEqual(got[3 * count:3 * count + 2], [want, want], count)

    def test_what_was_refused_or_not_new_does_not_count(self):
        got = ask(vo_start(2, 1), cast(0, 0, 2, 1), vo_order(), cast(0, 0, 1, 2), cast(1, 1, 1, 2), cast(0, 1, 1, 3),
                  vo_order())
        self.assertEqual(got[2:], [[0] + order_row(1, 0), [0], [NOT_RIGHT], [NOT_RIGHT], [0] + order_row(1, 0)])


class Final(unittest.TestCase):
    """Point 9: 1 or 0."""

    def final(self, candidates, booths, *calls):
        return ask(vo_start(candidates, booths), *calls, vo_order())[-1][0]

    def test_not_all_booths_closed(self):
        for booths in range(1, 9):
            for lacking in range(booths):
                calls = [shut(booth, 0) for booth in range(booths) if booth != lacking]
                self.assertEqual(self.final(2, booths, *calls), 0)
            self.assertEqual(self.final(2, booths, *[shut(booth, 0) for booth in range(booths)]), 1)

    def test_all_booths_closed_without_ballots(self):
        for candidates in range(2, 9):
            got = ask(vo_start(candidates, 2), shut(1, 0), shut(0, 0), vo_order())
            self.assertEqual(got[-1], [1] + order_row(*range(candidates)))

    def test_nothing_heard(self):
        self.assertEqual(self.final(2, 1), 0)

    def test_a_ballot_lacking(self):
        calls = [cast(booth, number, 1, 2) for booth in range(3) for number in range(3)]
        closings = [shut(booth, 3) for booth in range(3)]
        for lacking in range(len(calls)):
            self.assertEqual(self.final(2, 3, *calls[:lacking], *calls[lacking + 1:], *closings), 0)
        self.assertEqual(self.final(2, 3, *calls, *closings), 1)

    def test_a_closing_ahead_of_its_ballots(self):
        got = ask(vo_start(2, 1), shut(0, 2), vo_order(), cast(0, 1, 2, 1), vo_order(), cast(0, 0, 2, 1), vo_order())
        self.assertEqual(got[2::2], [[0] + order_row(0, 1), [0] + order_row(1, 0), [1] + order_row(1, 0)])

    def test_a_closing_behind_its_ballots(self):
        got = ask(vo_start(2, 1), cast(0, 0, 2, 1), vo_order(), shut(0, 1), vo_order())
        self.assertEqual(got[2::2], [[0] + order_row(1, 0), [1] + order_row(1, 0)])

    def test_ballots_beyond_the_closings_number_count(self):
        got = ask(vo_start(2, 1), cast(0, 0, 1, 2), shut(0, 1), vo_order(), cast(0, 1, 2, 1), cast(0, 4095, 2, 1),
                  vo_order(), vo_lacks(0), vo_prefer(1, 0))
        self.assertEqual(got[3], [1] + order_row(0, 1))
        self.assertEqual(got[6:], [[1] + order_row(1, 0), [-11], [2]])

    def test_ballots_beyond_do_not_make_up_for_those_that_are_lacking(self):
        self.assertEqual(self.final(2, 1, shut(0, 2), cast(0, 0, 1, 2), cast(0, 2, 1, 2), cast(0, 3, 1, 2)), 0)

    def test_another_closing_does_not_undo_or_make_it(self):
        self.assertEqual(self.final(2, 1, cast(0, 0, 1, 2), shut(0, 1), shut(0, 2)), 1)
        self.assertEqual(self.final(2, 1, cast(0, 0, 1, 2), shut(0, 2), shut(0, 1)), 0)

    def test_a_refused_closing_closes_nothing(self):
        self.assertEqual(self.final(2, 1, shut(1, 0), shut(0, 4097)), 0)

    def test_ballots_of_all_booths_together_are_not_enough(self):
        self.assertEqual(self.final(2, 2, shut(0, 1), shut(1, 1), cast(0, 0, 1, 2), cast(0, 1, 1, 2)), 0)


class Against(unittest.TestCase):
    """Point 10."""

    def test_orders_written_out(self):
        got = told(3, [(1, 2, 3)] * 2 + [(3, 1, 1)], *[vo_against(order_row(*order)) for order in
                                                       ((0, 1, 2), (0, 2, 1), (1, 0, 2), (2, 1, 0))])
        self.assertEqual(got, [[2], [4], [3], [6]])

    def test_every_order_of_few_and_drawn_ones_of_many(self):
        source = random.Random(10)
        for candidates in range(2, 9):
            ballots = drawn_ballots(source, candidates, 7)
            orders = list(itertools.permutations(range(candidates)))
            orders = source.sample(orders, min(len(orders), 120))
            self.assertEqual(told(candidates, ballots, *[vo_against(order_row(*order)) for order in orders]),
                             [[against(ballots, order)] for order in orders])

    def test_no_ballots(self):
        for candidates in range(2, 9):
            got = told(candidates, [], vo_against(order_row(*range(candidates))), vo_against(order_row(0)))
            self.assertEqual(got, [[0], [WRONG]])

    def test_ties_go_against_nobody(self):
        ballots = [(1, 1, 1), (2, 2, 2), (1, 1, 3)]
        got = told(3, ballots, vo_against(order_row(0, 1, 2)), vo_against(order_row(1, 0, 2)),
                   vo_against(order_row(2, 1, 0)))
        self.assertEqual(got, [[0], [0], [2]])

    def test_every_number_in_every_place(self):
        for candidates in range(2, 9):
            row = order_row(*range(candidates))
            for place in range(8):
                rows = [row[:place] + [other] + row[place + 1:] for other in range(256)]
                want = [[0] if other == row[place] else [WRONG] for other in range(256)]
                self.assertEqual(told(candidates, [], *[vo_against(each) for each in rows]), want, (candidates, place))

    def refuse(self, candidates, *rows):
        ballots = [range(1, candidates + 1)] * 2
        refused = [vo_against(row) for row in rows]
        got = told(candidates, ballots, *refused, *look(candidates, 1))
        self.assertEqual(got[:len(rows)], [[WRONG]] * len(rows), rows)
        self.assertEqual(got[len(rows):], told(candidates, ballots, *look(candidates, 1)))

    def test_a_candidate_twice(self):
        self.refuse(3, order_row(0, 1, 1), order_row(0, 0, 2), order_row(2, 1, 2), order_row(0, 0, 0))
        self.refuse(8, [0, 1, 2, 3, 4, 5, 6, 6], [7] * 8, [0] * 8)

    def test_one_too_many(self):
        self.refuse(3, order_row(0, 1, 2, 3), order_row(0, 1, 2, 0), order_row(3, 0, 1, 2), order_row(0, 1, 3))
        self.refuse(7, order_row(0, 1, 2, 3, 4, 5, 6, 7), order_row(0, 1, 2, 3, 4, 5, 7))

    def test_not_255_behind_the_last(self):
        for candidates in range(2, 8):
            for place in range(candidates, 8):
                for other in (0, candidates - 1, candidates, 8, 254):
                    row = order_row(*range(candidates))
                    row[place] = other
                    self.refuse(candidates, row)

    def test_255_ahead_of_the_last(self):
        for candidates in range(2, 9):
            for place in range(candidates):
                row = order_row(*range(candidates))
                row[place] = 255
                shifted = (row[:place] + [255] + list(range(place, candidates)) + [255] * 8)[:8]
                self.refuse(candidates, row, shifted)
        self.refuse(2, [255] * 8)

    def test_the_most_that_an_order_can_go_against(self):
        ballots = [range(1, 9)] * 40
        got = told(8, ballots, vo_against(range(7, -1, -1)), vo_against(range(8)), vo_order())
        self.assertEqual(got, [[28 * 40], [0], [0] + list(range(8))])


if __name__ == "__main__":
    unittest.main()
