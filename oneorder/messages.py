"""The messages that go from a booth to the office, twenty bytes each."""

from oneorder.orders import ranks_fit

BALLOT = 1
CLOSING = 2
MOST_BOOTHS = 8
MOST_BALLOTS = 4096
ONES = 0xFFFFFFFF
POLYNOMIAL = 0x82F63B78


def shifted_by_a_byte(rest):
    """Answer what is left of a check when eight bits of it are worked off, the low bit first."""
    for bit in range(8):
        if rest & 1 == 1:
            rest = (rest >> 1) ^ POLYNOMIAL
        else:
            rest = rest >> 1
    return rest


def check_of(numbers):
    """Answer the CRC-32C of a list of bytes."""
    rest = ONES
    for number in numbers:
        rest = shifted_by_a_byte(rest ^ number)
    return rest ^ ONES


def low_byte_first(number):
    """Answer the four bytes of a number."""
    return [number & 255, (number >> 8) & 255, (number >> 16) & 255, (number >> 24) & 255]


def from_low_byte_first(numbers):
    """Answer the number that has these four bytes."""
    return numbers[0] | (numbers[1] << 8) | (numbers[2] << 16) | (numbers[3] << 24)


def with_check(numbers):
    """Answer a message's bytes with their check behind them."""
    return numbers + low_byte_first(check_of(numbers))


def ballot_message(booth, number, ranks):
    """Answer the message of a ballot."""
    return with_check([BALLOT, booth, 0, 0] + low_byte_first(number) + ranks)


def closing_message(booth, ballots):
    """Answer the message of a closing with so many ballots."""
    return with_check([CLOSING, booth, 0, 0] + low_byte_first(ballots) + [0, 0, 0, 0, 0, 0, 0, 0])


def kind_of(message):
    """Answer what a message tells, a ballot or a closing."""
    return message[0]


def booth_of(message):
    """Answer the booth that a message is from."""
    return message[1]


def number_of(message):
    """Answer a ballot's number, or with how many ballots a booth was closed."""
    return from_low_byte_first(message[4:8])


def ranks_of(message):
    """Answer the row in which a ballot has its ranks."""
    return message[8:16]


def is_right(message, candidates):
    """Tell whether a message is right, with so many candidates."""
    booth = booth_of(message)
    number = number_of(message)
    ranks = ranks_of(message)
    if booth >= MOST_BOOTHS:
        return False
    # Built anew from its parts a message has its check and each 0 that is told, so none is forgotten here.
    if kind_of(message) == BALLOT and number < MOST_BALLOTS and ranks_fit(ranks, candidates):
        return message == ballot_message(booth, number, ranks)
    if kind_of(message) == CLOSING and number <= MOST_BALLOTS:
        return message == closing_message(booth, number)
    return False
