"""Promise 1: km_sum."""

import hashlib
import unittest

from helper import LARGEST, SMALLEST, EveryCall, message_of
from latticeseal.desk import km_sum

RATES = (136, 72, 168, 136)
FIXED_LENGTHS = (32, 64)
ABC = [97, 98, 99]


def known_sum(which, length, m):
    data = bytes(m)
    if which == 0:
        return list(hashlib.sha3_256(data).digest())
    if which == 1:
        return list(hashlib.sha3_512(data).digest())
    if which == 2:
        return list(hashlib.shake_128(data).digest(length))
    return list(hashlib.shake_256(data).digest(length))


class SumCase(unittest.TestCase):
    def check(self, which, length, m):
        # assertTrue, because unittest takes minutes to show how two long lists differ.
        same = km_sum(which, length, m) == [0] + known_sum(which, length, m)
        self.assertTrue(same, f"which {which}, length {length}, {len(m)} bytes")


class OrdinarySums(SumCase):
    def test_written_sums_of_nothing_and_of_abc(self):
        written = (
            (0, 0, [], "a7ffc6f8bf1ed76651c14756a061d662f580ff4de43b49fa82d80a4b80f8434a"),
            (0, 0, ABC, "3a985da74fe225b2045c172d6bd390bd855f086e3e9d525b46bfe24511431532"),
            (1, 0, [], "a69f73cca23a9ac5c8b567dc185a756e97c982164fe25859e0d1dcc1475c80a6"
                       "15b2123af1f5f94c11e3e9402c3ac558f500199d95b6d3e301758586281dcd26"),
            (1, 0, ABC, "b751850b1a57168a5693cd924b6b096e08f621827444f70d884f5d0240d2712e"
                        "10e116e9192af3c91a7ec57647e3934057340b4cf408d5a56592f8274eec53f0"),
            (2, 32, [], "7f9c2ba4e88f827d616045507605853ed73b8093f6efbc88eb1a6eacfa66ef26"),
            (3, 32, [], "46b9dd2b0ba88d13233b3feb743eeb243fcd52ea62b81b82b50c27646ed5762f"),
        )
        for which, length, m, digits in written:
            self.assertEqual(km_sum(which, length, m), [0] + list(bytes.fromhex(digits)))

    def test_ordinary_messages(self):
        texts = (b"a", b"abc", b"keys sealed by lattices", bytes(range(256)), bytes(50), b"\xff" * 50)
        for which in range(4):
            for text in texts:
                self.check(which, 48, list(text))

    def test_every_short_length_of_message(self):
        for which in range(4):
            for count in range(0, 2 * RATES[which] + 2):
                self.check(which, 16, message_of(count))

    def test_messages_about_the_rate(self):
        for which in range(4):
            r = RATES[which]
            for count in (0, r - 2, r - 1, r, r + 1, 2 * r - 2, 2 * r - 1, 2 * r, 2 * r + 1):
                for m in (message_of(count), [0] * count, [255] * count):
                    self.check(which, 40, m)

    def test_messages_of_many_blocks(self):
        for which in range(4):
            for count in (20 * RATES[which] - 1, 20 * RATES[which], 5003):
                self.check(which, 100, message_of(count))

    def test_the_longest_message(self):
        for which in range(4):
            self.check(which, 500, message_of(100000))


class Lengths(SumCase):
    def test_any_length_of_which_2_and_3(self):
        for which in (2, 3):
            r = RATES[which]
            for length in (0, 1, 7, 8, 9, r - 1, r, r + 1, 2 * r - 1, 2 * r, 2 * r + 1, 3024, 5000):
                for m in ([], ABC, message_of(r)):
                    self.check(which, length, m)

    def test_length_0_of_which_2_and_3_is_no_byte(self):
        for which in (2, 3):
            self.assertEqual(km_sum(which, 0, ABC), [0])

    def test_the_longest_sum(self):
        for which in (2, 3):
            self.check(which, 900000, ABC)

    def test_which_0_and_1_whatever_length_is(self):
        for which in (0, 1):
            for length in (0, 1, 31, 32, 33, 63, 64, 65, 900000, 16777216):
                for m in ([], ABC):
                    self.assertEqual(len(km_sum(which, length, m)), 1 + FIXED_LENGTHS[which])
                    self.check(which, length, m)


class Refusals(unittest.TestCase):
    def test_wrong_which(self):
        for which in (-1, 4, 5, SMALLEST, LARGEST):
            for m in ([], ABC, message_of(1000)):
                self.assertEqual(km_sum(which, 32, m), [-1])

    def test_wrong_length(self):
        for which in range(4):
            for length in (-1, SMALLEST, 16777217, LARGEST):
                for m in ([], ABC, message_of(1000)):
                    self.assertEqual(km_sum(which, length, m), [-1])

    def test_both_wrong(self):
        for which in (-1, 4, SMALLEST, LARGEST):
            for length in (-1, SMALLEST, 16777217, LARGEST):
                self.assertEqual(km_sum(which, length, ABC), [-1])

    def test_too_many_bytes(self):
        # Longer than the interface hands in; the promise names this refusal all the same.
        m = [0] * 16777217
        for which in range(4):
            self.assertEqual(km_sum(which, 32, m), [-1])


class TheCall(EveryCall, unittest.TestCase):
    function = staticmethod(km_sum)
    names = ["which", "length", "m"]
    calls = ((0, 5, ABC), (1, 5, []), (2, 400, message_of(400)), (3, 400, message_of(135)),
             (4, 5, ABC), (0, -1, ABC), (2, 0, []))


if __name__ == "__main__":
    unittest.main()
