"""The messages that go from a booth to the office, twenty bytes each."""

BALLOT = 1
CLOSING = 2
MOST_BOOTHS = 8
MOST_BALLOTS = 4096
ONES = 0xFFFFFFFF
POLYNOMIAL = 0x82F63B78


def shifted_by_a_byte(rest):
    """Answer what is left of a check when eight bits of it are worked off, the low bit first."""
    for bit in range(8):
        if rest & 1 == 1:
            rest = (rest >> 1) ^ POLYNOMIAL
        else:
            rest = rest >> 1
    return rest


def check_of(numbers):
    """Answer the CRC-32C of a list of bytes."""
    rest = ONES
    for number in numbers:
        rest = shifted_by_a_byte(rest ^ number)
    return rest ^ ONES


def low_byte_first(number):
    """Answer the four bytes of a number."""
    return [number & 255, (number >> 8) & 255, (number >> 16) & 255, (number >> 24) & 255]


def with_check(numbers):
    """Answer a message's bytes with their check behind them."""
    return numbers + low_byte_first(check_of(numbers))


def ballot_message(booth, number, ranks):
    """Answer the message of a ballot."""
    return with_check([BALLOT, booth, 0, 0] + low_byte_first(number) + ranks)


def closing_message(booth, ballots):
    """Answer the message of a closing with so many ballots."""
    return with_check([CLOSING, booth, 0, 0] + low_byte_first(ballots) + [0, 0, 0, 0, 0, 0, 0, 0])
