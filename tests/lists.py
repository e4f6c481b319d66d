"""Builds lists of calls for the tests, and takes lists of answers apart."""

from oneorder.votes import answers

WRONG, CLOSED, FULL, NOT_THERE = -22, -11, -28, -2
NOT_RIGHT, NOT_CLOSED, NOTHING_LACKS = -71, -16, -11
HIGHEST = 4294967295


def vb_start(me, candidates, at=0):
    return [0, at, me, candidates]


def vb_vote(ranks, at=0):
    return [1, at, len(ranks)] + list(ranks)


def vb_close(at=0):
    return [2, at]


def vb_again(number, at=0):
    return [3, at, number]


def vo_start(candidates, booths):
    return [4, 0, candidates, booths]


def vo_heard(numbers):
    return [5, 0, len(numbers)] + list(numbers)


def vo_lacks(booth):
    return [6, 0, booth]


def vo_prefer(x, y):
    return [7, 0, x, y]


def vo_order():
    return [8, 0]


def vo_against(row):
    return [9, 0, len(row)] + list(row)


def joined(calls):
    return [number for call in calls for number in call]


def apart(answered):
    """Takes the counts off: a list of numbers for each call."""
    parts = []
    at = 0
    while at < len(answered):
        count = answered[at]
        part = answered[at + 1:at + 1 + count]
        if len(part) != count:
            raise AssertionError("the last count tells more numbers than follow")
        parts.append(part)
        at += 1 + count
    return parts


def ask(*calls):
    parts = apart(answers(joined(calls)))
    if len(parts) != len(calls):
        raise AssertionError(f"{len(calls)} calls, {len(parts)} answers")
    return parts


def ranks_of(*ranks):
    """A row of eight: these ranks, with 0 behind the last."""
    return list(ranks) + [0] * (8 - len(ranks))


def order_row(*order):
    """A row of eight: these candidates, with 255 behind the last."""
    return list(order) + [255] * (8 - len(order))


def other_check(numbers):
    """CRC-32C by another way than the program's: one long division of mirrored bits, the high bit first."""
    bits = [(number >> place) & 1 for number in numbers for place in range(8)]
    bits += [0] * 32
    for place in range(32):
        bits[place] ^= 1
    polynomial = [int(sign) for sign in f"{0x11EDC6F41:b}"]
    for place in range(len(bits) - 32):
        if bits[place]:
            for further, bit in enumerate(polynomial):
                bits[place + further] ^= bit
    return sum((bit ^ 1) << place for place, bit in enumerate(bits[-32:]))


def checked(numbers):
    """These sixteen numbers with the check that fits behind them."""
    return list(numbers) + list(other_check(numbers).to_bytes(4, "little"))


def message(kind, booth, number, row):
    return checked(bytes([kind, booth, 0, 0]) + number.to_bytes(4, "little") + bytes(row))


def ballot(booth, number, ranks):
    """What is answered where this ballot is told."""
    return [number] + message(1, booth, number, ranks)


def closing(booth, ballots):
    """What is answered where this closing is told."""
    return [ballots] + message(2, booth, ballots, [0] * 8)


def cast(booth, number, *ranks):
    """The call by which the office hears this ballot."""
    return vo_heard(message(1, booth, number, ranks_of(*ranks)))


def shut(booth, ballots):
    """The call by which the office hears this closing."""
    return vo_heard(message(2, booth, ballots, [0] * 8))


def look(candidates, booths):
    """Calls that show what the office has, so far as any does without being heard."""
    asked = [vo_prefer(x, y) for x in range(candidates) for y in range(candidates)]
    return [vo_order()] + [vo_lacks(booth) for booth in range(booths)] + asked
