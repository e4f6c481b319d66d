import unittest

from lists import other_check
from oneorder.messages import check_of

# Known from outside the program: the catalogued check, and the examples of RFC 3720, B.4.
KNOWN = (
    (list(b"123456789"), 0xE3069283),
    ([0] * 32, 0x8A9136AA),
    ([255] * 32, 0x62A8AB43),
    (list(range(32)), 0x46DD794E),
    (list(range(31, -1, -1)), 0x113FDB5C),
    ([], 0),
)


class Check(unittest.TestCase):
    def test_known_values(self):
        for numbers, check in KNOWN:
            self.assertEqual(check_of(numbers), check, numbers)

    def test_the_tests_own_reckoning_by_known_values(self):
        for numbers, check in KNOWN:
            if len(numbers) >= 4:
                self.assertEqual(other_check(numbers), check, numbers)

    def test_every_byte_in_every_place_counts(self):
        for place in range(16):
            for byte in range(256):
                numbers = [7] * 16
                numbers[place] = byte
                self.assertEqual(check_of(numbers), other_check(numbers), numbers)


if __name__ == "__main__":
    unittest.main()
