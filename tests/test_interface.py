import contextlib
import io
import random
import unittest

from lists import (CLOSED, HIGHEST, NOT_CLOSED, NOT_RIGHT, NOT_THERE, NOTHING_LACKS, WRONG, apart, ask, ballot, cast,
                   closing, joined, message, order_row, ranks_of, shut, vb_again, vb_close, vb_start, vb_vote,
                   vo_against, vo_heard, vo_lacks, vo_order, vo_prefer, vo_start)
from model import ModelOffice
from oneorder.votes import answers

LONGEST = 30000
MOST_CALLS = 5000


class Watched(list):
    """A list that doesn't let itself be changed, not for a while either."""

    def refuse(self, *given, **named):
        raise AssertionError("the list that was handed in is changed")

    append = clear = extend = insert = pop = remove = reverse = sort = refuse
    __setitem__ = __delitem__ = __iadd__ = __imul__ = refuse


def some_call(source, at):
    """A call of a booth that was started, refused now and then."""
    draw = source.randrange(20)
    if draw == 0:
        return vb_start(source.randrange(10), source.randrange(1, 10), at)
    if draw == 1:
        return vb_close(at)
    if draw < 6:
        return vb_again(source.choice([0, 1, 2, 5, HIGHEST]), at)
    candidates = source.randrange(2, 5)
    return vb_vote(ranks_of(*[source.randrange(1, candidates + 1) for place in range(candidates)]), at)


def some_office_call(source, told):
    """A call of an office that was started, with messages of those that were told, refused now and then."""
    if source.randrange(80) == 0:
        return vo_start(source.randrange(1, 6), source.randrange(10))
    draw = source.randrange(40)
    if draw < 5:
        return vo_lacks(source.choice([0, 4, 5, 6, 7, 8, HIGHEST]))
    if draw < 9:
        return vo_prefer(source.randrange(5), source.randrange(5))
    if draw < 13:
        return vo_order()
    if draw < 17:
        return vo_against(order_row(*source.sample(range(4), source.randrange(2, 5))))
    numbers = list(source.choice(told)) if told else [0] * 20
    if source.randrange(8) == 0:
        numbers[source.randrange(20)] ^= 1 << source.randrange(8)
    return vo_heard(numbers)


def mixed_calls(source, count):
    """Calls of all four booths and the office, mixed; each one's first is a start that is taken.

    The office hears what the booths told ahead of that in the list, never what's told behind it.
    """
    calls = [vb_start(7 - at, 2 + at % 3, at) for at in range(4)]
    while len(calls) < count // 2:
        calls.append(some_call(source, source.randrange(4)))
    told = []
    mixed = [vo_start(3, 8)]
    for call, answer in zip(calls, ask(*calls)):
        mixed.append(call)
        if len(answer) > 1:
            told.append(answer[1:])
        mixed.append(some_office_call(source, told))
    return mixed


def whose(call):
    return "office" if call[0] >= 4 else call[1]


def longest_calls():
    """5,000 calls of the booths in 30,000 numbers."""
    votes = [vb_vote(ranks_of(1, 2), at=vote % 4) for vote in range(2220)]
    starts = [vb_start(at, 2, at) for at in range(4)]
    lacking = MOST_CALLS - len(starts) - len(votes) - 4
    return starts + votes + [vb_again(555, at=3)] * 4 + [vb_close(call % 4) for call in range(lacking)]


def longest_office_calls():
    """5,000 calls of the office: ballots, and between them orders, orders held against them, and what's lacking."""
    rows = [[1 + (vote * place + vote // 3) % 8 for place in range(8)] for vote in range(300)]
    calls = [vo_start(8, 2), shut(0, 150), shut(1, 151)]
    for vote, row in enumerate(rows):
        calls += [vo_heard(message(1, vote % 2, vote // 2, row)), vo_order(), vo_lacks(1), vo_prefer(vote % 8, 3)]
    calls += [vo_against(range(8)), vo_lacks(0), vo_lacks(1)]
    return calls + [vo_order()] * (MOST_CALLS - len(calls)), rows


class Interface(unittest.TestCase):
    def test_counts_ahead_of_the_answers(self):
        calls = joined([vb_start(8, 2), vb_start(5, 3), vb_vote(ranks_of(2, 1, 2)), vb_vote(ranks_of(2, 1)),
                        vb_again(1), vb_close(), vo_start(2, 9), vo_start(2, 1)])
        self.assertEqual(answers(calls), [
            1, -22,
            1, 0,
            21, 0, 1, 5, 0, 0, 0, 0, 0, 0, 2, 1, 2, 0, 0, 0, 0, 0, 165, 158, 210, 109,
            1, -22,
            1, -2,
            21] + closing(5, 1) + [
            1, -22,
            1, 0])

    def test_counts_ahead_of_the_offices_answers(self):
        calls = joined([vo_start(3, 2), vo_order(), cast(1, 0, 3, 1, 2), cast(1, 0, 3, 1, 2), cast(2, 0, 3, 1, 2),
                        vo_lacks(1), vo_lacks(2), shut(1, 2), vo_lacks(1), shut(0, 0), vo_lacks(0), vo_prefer(1, 0),
                        vo_prefer(1, 3), vo_against(order_row(0, 1, 2)), vo_against(order_row(0, 1)),
                        cast(1, 1, 1, 1, 1), vo_order()])
        self.assertEqual(answers(calls), [
            1, 0,
            9, 0, 0, 1, 2, 255, 255, 255, 255, 255,
            1, 1,
            1, 0,
            1, -71,
            1, -16,
            1, -22,
            1, 1,
            1, 1,
            1, 1,
            1, -11,
            1, 1,
            1, -22,
            1, 2,
            1, -22,
            1, 1,
            9, 1, 1, 2, 0, 255, 255, 255, 255, 255])

    def test_booths_messages_handed_to_the_office(self):
        two, three = ranks_of(2, 1, 2), ranks_of(3, 2, 1)
        booths = [vb_start(1, 3, 0), vb_start(0, 3, 3), vb_vote(two, 0), vb_vote(three, 3), vb_vote(three, 3),
                  vb_close(0), vb_close(3), vb_again(1, 3)]
        told = [vo_heard(answer[1:]) for answer in ask(*booths)[2:]]
        mixed = [vo_start(3, 2)] + booths[:3] + told[:1] + booths[3:4] + told[1:2] + booths[4:7] + told[3:5]
        got = ask(*mixed, vo_order(), vo_lacks(0), vo_lacks(1), booths[7], told[5], told[2], vo_lacks(0), vo_order())
        self.assertEqual([got[place] for place in (4, 6, 10, 11)], [[1]] * 4)
        self.assertEqual(got[12:], [[0] + order_row(1, 2, 0), [1], [NOTHING_LACKS], ballot(0, 1, three), [1], [0],
                                    [NOTHING_LACKS], [1] + order_row(2, 1, 0)])

    def test_the_office_hears_nothing_that_is_not_handed_to_it(self):
        two = ranks_of(2, 1)
        got = ask(vo_start(2, 1), vb_start(0, 2), vb_vote(two), vb_close(), vo_lacks(0), vo_order(), vo_prefer(1, 0))
        self.assertEqual(got[4:], [[NOT_CLOSED], [0] + order_row(0, 1), [0]])

    def test_a_booth_is_its_me_to_the_office(self):
        told = ask(vb_start(5, 2, 2), vb_vote(ranks_of(2, 1), 2), vb_close(2))
        got = ask(vo_start(2, 6), vo_heard(told[1][1:]), vo_heard(told[2][1:]), vo_lacks(2), vo_lacks(5))
        self.assertEqual(got[1:], [[1], [1], [NOT_CLOSED], [NOTHING_LACKS]])

    def test_one_call(self):
        self.assertEqual(answers([0, 3, 7, 8]), [1, 0])
        self.assertEqual(answers([4, 0, 2, 1]), [1, 0])

    def test_an_object_is_not_its_me(self):
        two = ranks_of(1, 2)
        for at in range(4):
            for me in range(8):
                got = ask(vb_start(me, 2, at), vb_vote(two, at), vb_again(0, at), vb_close(at))
                self.assertEqual(got, [[0], ballot(me, 0, two), ballot(me, 0, two), closing(me, 1)])

    def test_two_objects_with_one_me(self):
        two = ranks_of(1, 2)
        got = ask(vb_start(6, 2, 0), vb_start(6, 2, 1), vb_vote(two, 0), vb_vote(two, 1), vb_close(0), vb_vote(two, 1),
                  vb_vote(two, 0))
        self.assertEqual(got[2:], [ballot(6, 0, two), ballot(6, 0, two), closing(6, 1), ballot(6, 1, two), [CLOSED]])

    def test_objects_whose_mes_are_crossed(self):
        two, three = ranks_of(1, 2), ranks_of(3, 2, 1)
        got = ask(vb_start(1, 2, 0), vb_start(0, 3, 1), vb_vote(two, 0), vb_vote(three, 1), vb_vote(three, 0),
                  vb_vote(two, 1), vb_close(1), vb_again(1, 0), vb_vote(two, 0))
        self.assertEqual(got[2:], [ballot(1, 0, two), ballot(0, 0, three), [WRONG], [WRONG], closing(0, 1),
                                   [NOT_THERE], ballot(1, 1, two)])

    def test_mixed_calls_are_answered_as_each_alone(self):
        for seed in range(30):
            calls = mixed_calls(random.Random(seed), 200)
            got = ask(*calls)
            for which in (0, 1, 2, 3, "office"):
                alone = ask(*[call for call in calls if whose(call) == which])
                self.assertEqual([part for call, part in zip(calls, got) if whose(call) == which], alone)

    def test_mixed_calls_are_answered_as_the_document_says_over(self):
        counts = {}
        for seed in range(40):
            calls = mixed_calls(random.Random(1000 + seed), 300)
            office = ModelOffice()
            for call, answer in zip(calls, ask(*calls)):
                if whose(call) == "office":
                    self.assertEqual(answer, office.answer(call), (seed, call))
                    key = (call[0], min(answer[0], 2))
                    counts[key] = counts.get(key, 0) + 1
        wanted = [(4, -22), (4, 0), (5, -71), (5, 0), (5, 1), (6, -22), (6, -16), (6, -11), (6, 0), (7, -22), (7, 0),
                  (7, 2), (8, 0), (9, -22), (9, 0), (9, 2)]
        for key in wanted:
            self.assertGreater(counts.get(key, 0), 10, key)

    def test_five_thousand_calls(self):
        calls = longest_calls()
        numbers = joined(calls)
        self.assertEqual(len(calls), MOST_CALLS)
        self.assertLessEqual(len(numbers), LONGEST)
        got = apart(answers(numbers))
        self.assertEqual(len(got), MOST_CALLS)
        two = ranks_of(1, 2)
        for vote in range(2220):
            self.assertEqual(got[4 + vote][:1], [vote // 4])
        self.assertEqual(got[2223], ballot(3, 554, two))
        self.assertEqual(got[2224:2228], [[NOT_THERE]] * 4)
        self.assertEqual(got[2228:], [closing(at, 555) for at in range(4)] * 693)

    def test_thirty_thousand_numbers(self):
        numbers = joined([vb_start(0, 2)] + [vb_vote(ranks_of(2, 2))] * 2726 + [vb_close()] * 5)
        self.assertEqual(len(numbers), LONGEST)
        self.assertEqual(apart(answers(numbers))[-1], closing(0, 2726))

    def test_five_thousand_calls_of_the_office(self):
        calls, rows = longest_office_calls()
        numbers = joined(calls)
        self.assertEqual(len(calls), MOST_CALLS)
        self.assertLessEqual(len(numbers), LONGEST)
        got = apart(answers(numbers))
        self.assertEqual(len(got), MOST_CALLS)
        heard = got[3:1203]
        self.assertEqual(heard[0::4], [[1]] * 300)
        self.assertEqual(heard[2::4], [[(vote + 1) // 2] for vote in range(300)])
        for vote in range(300):
            self.assertEqual(heard[4 * vote + 3], [sum(1 for row in rows[:vote + 1] if row[vote % 8] < row[3])])
        much = sum(1 for row in rows for y in range(8) for x in range(y) if row[y] < row[x])
        self.assertEqual(got[1203:1206], [[much], [NOTHING_LACKS], [150]])
        self.assertEqual(got[1206:], [heard[-3]] * (MOST_CALLS - 1206))
        self.assertEqual(sorted(heard[-3]), [0] + list(range(8)))

    def test_thirty_thousand_numbers_of_the_office(self):
        ballots = [vo_heard(message(1, vote % 8, vote // 8, ranks_of(2, 1))) for vote in range(1304)]
        numbers = joined([vo_start(2, 8)] + ballots + [vo_order()] * 2)
        self.assertEqual(len(numbers), LONGEST)
        got = apart(answers(numbers))
        self.assertEqual(got, [[0]] + [[1]] * 1304 + [[0] + order_row(1, 0)] * 2)

    def test_what_is_handed_in_is_not_changed(self):
        numbers = joined(mixed_calls(random.Random(77), 300))
        watched = Watched(numbers)
        got = answers(watched)
        self.assertEqual(list(watched), numbers)
        self.assertEqual(got, answers(numbers))

    def test_answered_alike_whenever_asked(self):
        numbers = joined(mixed_calls(random.Random(5), 300))
        other = joined(mixed_calls(random.Random(6), 300))
        first = answers(numbers)
        kept = list(first)
        answers(other)
        second = answers(numbers)
        self.assertEqual(second, kept)
        second.clear()
        self.assertEqual(first, kept)
        self.assertEqual(answers(numbers), kept)

    def test_objects_are_new_in_each_list(self):
        two = ranks_of(1, 2)
        ask(vb_start(0, 2), vb_vote(two), vb_close(), vo_start(2, 1))
        self.assertEqual(ask(vb_start(9, 2), vb_start(0, 2), vb_again(0), vb_vote(two)),
                         [[WRONG], [0], [NOT_THERE], ballot(0, 0, two)])

    def test_a_list_of_whole_numbers(self):
        got = answers(joined(mixed_calls(random.Random(8), 300)))
        self.assertIs(type(got), list)
        self.assertEqual({type(number) for number in got}, {int})

    def test_nothing_is_printed(self):
        printed = io.StringIO()
        with contextlib.redirect_stdout(printed), contextlib.redirect_stderr(printed):
            answers(joined(mixed_calls(random.Random(9), 100)))
        self.assertEqual(printed.getvalue(), "")


if __name__ == "__main__":
    unittest.main()
