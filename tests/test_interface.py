import contextlib
import io
import random
import unittest

from lists import (CLOSED, HIGHEST, NOT_THERE, WRONG, apart, ask, ballot, closing, joined, ranks_of, vb_again,
                   vb_close, vb_start, vb_vote, vo_start)
from oneorder.votes import answers

LONGEST = 30000
MOST_CALLS = 5000


class Watched(list):
    """A list that doesn't let itself be changed, not for a while either."""

    def refuse(self, *given, **named):
        raise AssertionError("the list that was handed in is changed")

    append = clear = extend = insert = pop = remove = reverse = sort = refuse
    __setitem__ = __delitem__ = __iadd__ = __imul__ = refuse


def some_call(source, at):
    """A call of a booth that was started, refused now and then."""
    draw = source.randrange(20)
    if draw == 0:
        return vb_start(source.randrange(10), source.randrange(1, 10), at)
    if draw == 1:
        return vb_close(at)
    if draw < 6:
        return vb_again(source.choice([0, 1, 2, 5, HIGHEST]), at)
    candidates = source.randrange(2, 5)
    return vb_vote(ranks_of(*[source.randrange(1, candidates + 1) for place in range(candidates)]), at)


def mixed_calls(source, count):
    """Calls of all four booths and the office, mixed; each one's first is a start that is taken."""
    calls = [vb_start(7 - at, 2 + at % 3, at) for at in range(4)] + [vo_start(3, 4)]
    while len(calls) < count:
        at = source.randrange(5)
        if at == 4:
            calls.append(vo_start(source.randrange(10), source.randrange(10)))
        else:
            calls.append(some_call(source, at))
    return calls


def whose(call):
    return "office" if call[0] == 4 else call[1]


def longest_calls():
    """5,000 calls in 30,000 numbers."""
    votes = [vb_vote(ranks_of(1, 2), at=vote % 4) for vote in range(2220)]
    starts = [vb_start(at, 2, at) for at in range(4)]
    lacking = MOST_CALLS - len(starts) - len(votes) - 4
    return starts + votes + [vb_again(555, at=3)] * 4 + [vb_close(call % 4) for call in range(lacking)]


class Interface(unittest.TestCase):
    def test_counts_ahead_of_the_answers(self):
        calls = joined([vb_start(8, 2), vb_start(5, 3), vb_vote(ranks_of(2, 1, 2)), vb_vote(ranks_of(2, 1)),
                        vb_again(1), vb_close(), vo_start(2, 9), vo_start(2, 1)])
        self.assertEqual(answers(calls), [
            1, -22,
            1, 0,
            21, 0, 1, 5, 0, 0, 0, 0, 0, 0, 2, 1, 2, 0, 0, 0, 0, 0, 165, 158, 210, 109,
            1, -22,
            1, -2,
            21] + closing(5, 1) + [
            1, -22,
            1, 0])

    def test_one_call(self):
        self.assertEqual(answers([0, 3, 7, 8]), [1, 0])
        self.assertEqual(answers([4, 0, 2, 1]), [1, 0])

    def test_an_object_is_not_its_me(self):
        two = ranks_of(1, 2)
        for at in range(4):
            for me in range(8):
                got = ask(vb_start(me, 2, at), vb_vote(two, at), vb_again(0, at), vb_close(at))
                self.assertEqual(got, [[0], ballot(me, 0, two), ballot(me, 0, two), closing(me, 1)])

    def test_two_objects_with_one_me(self):
        two = ranks_of(1, 2)
        got = ask(vb_start(6, 2, 0), vb_start(6, 2, 1), vb_vote(two, 0), vb_vote(two, 1), vb_close(0), vb_vote(two, 1),
                  vb_vote(two, 0))
        self.assertEqual(got[2:], [ballot(6, 0, two), ballot(6, 0, two), closing(6, 1), ballot(6, 1, two), [CLOSED]])

    def test_objects_whose_mes_are_crossed(self):
        two, three = ranks_of(1, 2), ranks_of(3, 2, 1)
        got = ask(vb_start(1, 2, 0), vb_start(0, 3, 1), vb_vote(two, 0), vb_vote(three, 1), vb_vote(three, 0),
                  vb_vote(two, 1), vb_close(1), vb_again(1, 0), vb_vote(two, 0))
        self.assertEqual(got[2:], [ballot(1, 0, two), ballot(0, 0, three), [WRONG], [WRONG], closing(0, 1),
                                   [NOT_THERE], ballot(1, 1, two)])

    def test_mixed_calls_are_answered_as_each_alone(self):
        for seed in range(30):
            calls = mixed_calls(random.Random(seed), 200)
            got = ask(*calls)
            for which in (0, 1, 2, 3, "office"):
                alone = ask(*[call for call in calls if whose(call) == which])
                self.assertEqual([part for call, part in zip(calls, got) if whose(call) == which], alone)

    def test_five_thousand_calls(self):
        calls = longest_calls()
        numbers = joined(calls)
        self.assertEqual(len(calls), MOST_CALLS)
        self.assertLessEqual(len(numbers), LONGEST)
        got = apart(answers(numbers))
        self.assertEqual(len(got), MOST_CALLS)
        two = ranks_of(1, 2)
        for vote in range(2220):
            self.assertEqual(got[4 + vote][:1], [vote // 4])
        self.assertEqual(got[2223], ballot(3, 554, two))
        self.assertEqual(got[2224:2228], [[NOT_THERE]] * 4)
        self.assertEqual(got[2228:], [closing(at, 555) for at in range(4)] * 693)

    def test_thirty_thousand_numbers(self):
        numbers = joined([vb_start(0, 2)] + [vb_vote(ranks_of(2, 2))] * 2726 + [vb_close()] * 5)
        self.assertEqual(len(numbers), LONGEST)
        self.assertEqual(apart(answers(numbers))[-1], closing(0, 2726))

    def test_what_is_handed_in_is_not_changed(self):
        numbers = joined(mixed_calls(random.Random(77), 300))
        watched = Watched(numbers)
        got = answers(watched)
        self.assertEqual(list(watched), numbers)
        self.assertEqual(got, answers(numbers))

    def test_answered_alike_whenever_asked(self):
        numbers = joined(mixed_calls(random.Random(5), 300))
        other = joined(mixed_calls(random.Random(6), 300))
        first = answers(numbers)
        kept = list(first)
        answers(other)
        second = answers(numbers)
        self.assertEqual(second, kept)
        second.clear()
        self.assertEqual(first, kept)
        self.assertEqual(answers(numbers), kept)

    def test_objects_are_new_in_each_list(self):
        two = ranks_of(1, 2)
        ask(vb_start(0, 2), vb_vote(two), vb_close(), vo_start(2, 1))
        self.assertEqual(ask(vb_start(9, 2), vb_start(0, 2), vb_again(0), vb_vote(two)),
                         [[WRONG], [0], [NOT_THERE], ballot(0, 0, two)])

    def test_a_list_of_whole_numbers(self):
        got = answers(joined(mixed_calls(random.Random(8), 300)))
        self.assertIs(type(got), list)
        self.assertEqual({type(number) for number in got}, {int})

    def test_nothing_is_printed(self):
        printed = io.StringIO()
        with contextlib.redirect_stdout(printed), contextlib.redirect_stderr(printed):
            answers(joined(mixed_calls(random.Random(9), 100)))
        self.assertEqual(printed.getvalue(), "")


if __name__ == "__main__":
    unittest.main()
