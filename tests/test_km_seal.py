"""Promise 3: km_seal."""

import unittest

from helper import (KINDS, NO_KINDS, EveryCall, bytes_of, g_of, h_of, keys_of, message_of, numbers_of,
                    seal_and_key_of)
from latticeseal.desk import km_seal

SEAL_SIZES = {2: 768, 3: 1088, 4: 1568}
MESSAGES = ([0] * 32, [255] * 32, message_of(32), [1] + [0] * 31, [0] * 31 + [128])


def open_key(kind, step, first):
    """An open key whose numbers go up by steps; the greatest step and number are among those asked for."""
    numbers = [(step * n + first) % 3329 for n in range(256 * kind)]
    return bytes_of(numbers, 12) + message_of(32, step % 256)


def open_keys(kind):
    return (
        keys_of(kind, message_of(32), [0] * 32)[0],
        keys_of(kind, [0] * 32, [0] * 32)[0],
        open_key(kind, 1, 0),
        open_key(kind, 77, 3000),
        open_key(kind, 3328, 3328),
        open_key(kind, 0, 3328),
        [0] * (384 * kind + 32),
    )


def with_number(kind, place, number):
    """An ordinary open key in which the number at one place is this one."""
    openkey = open_key(kind, 1234, 5)
    numbers = sum(numbers_of(openkey[:384 * kind], 12), [])
    numbers[place] = number
    return bytes_of(numbers, 12) + openkey[384 * kind:]


CALLS = tuple((kind, list(open_key(kind, 77, 3000)), list(m)) for kind in KINDS for m in MESSAGES[1:3]) + (
    (1, [], [0] * 32), (5, [], message_of(32)),
    (2, with_number(2, 0, 3329), [0] * 32), (4, with_number(4, 1023, 4095), message_of(32)))


class OrdinarySeals(unittest.TestCase):
    def check(self, kind, openkey, m):
        seal, key = seal_and_key_of(kind, openkey, m)
        same = km_seal(kind, openkey, m) == [0] + seal + key
        self.assertTrue(same, f"kind {kind}, m {m}, open key {openkey}")

    def test_open_keys(self):
        for kind in KINDS:
            for openkey in open_keys(kind):
                self.check(kind, openkey, message_of(32, kind))

    def test_messages(self):
        for kind in KINDS:
            for m in MESSAGES:
                self.check(kind, open_key(kind, 77, 3000), m)

    def test_lengths_and_bytes(self):
        for kind in KINDS:
            for openkey in open_keys(kind):
                answer = km_seal(kind, openkey, MESSAGES[2])
                self.assertEqual(len(answer), 1 + SEAL_SIZES[kind] + 32)
                self.assertEqual(answer[0], 0)
                self.assertTrue(all(0 <= number <= 255 for number in answer))

    def test_the_key(self):
        for kind in KINDS:
            for openkey in open_keys(kind)[2:]:
                for m in MESSAGES:
                    self.assertEqual(km_seal(kind, openkey, m)[-32:], g_of(m + h_of(openkey))[:32])


class Refusals(unittest.TestCase):
    def test_no_such_kind(self):
        for kind in NO_KINDS:
            for m in MESSAGES:
                self.assertEqual(km_seal(kind, [], m), [-1])

    def test_numbers_of_3329_and_more(self):
        for kind in KINDS:
            last = 256 * kind - 1
            for place in (0, 1, 2, 255, 256, last - 1, last):
                for number in (3329, 3330, 3584, 4095):
                    self.assertEqual(km_seal(kind, with_number(kind, place, number), MESSAGES[2]), [-2])

    def test_the_greatest_number_that_is_allowed(self):
        for kind in KINDS:
            last = 256 * kind - 1
            for place in (0, 1, 255, 256, last - 1, last):
                answer = km_seal(kind, with_number(kind, place, 3328), MESSAGES[2])
                self.assertEqual((answer[0], len(answer)), (0, 1 + SEAL_SIZES[kind] + 32))

    def test_all_numbers_too_great(self):
        for kind in KINDS:
            self.assertEqual(km_seal(kind, [255] * (384 * kind + 32), MESSAGES[2]), [-2])

    def test_the_last_32_bytes_may_be_any(self):
        for kind in KINDS:
            for rho in ([255] * 32, [0] * 32):
                answer = km_seal(kind, open_key(kind, 1, 0)[:-32] + rho, MESSAGES[2])
                self.assertEqual((answer[0], len(answer)), (0, 1 + SEAL_SIZES[kind] + 32))


class TheCall(EveryCall, unittest.TestCase):
    function = staticmethod(km_seal)
    names = ["kind", "openkey", "m"]
    calls = CALLS


if __name__ == "__main__":
    unittest.main()
