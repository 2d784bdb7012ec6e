"""Promise 2: km_keys."""

import unittest

from helper import KINDS, NO_KINDS, EveryCall, h_of, keys_of, message_of
from latticeseal.desk import km_keys

SEEDS = (
    ([0] * 32, [0] * 32),
    ([255] * 32, [255] * 32),
    ([0] * 32, [255] * 32),
    (message_of(32), message_of(32, 99)),
    (message_of(32, 200), [0] * 31 + [1]),
    ([1] + [0] * 31, [1] + [0] * 31),
    ([0] * 31 + [1], message_of(32)),
)
CALLS = tuple((kind, list(d), list(z)) for kind in KINDS for d, z in SEEDS[:4]) + (
    (1, [0] * 32, [0] * 32), (5, message_of(32), message_of(32, 1)))


def parts(kind, answer):
    """The open key and the secret one, behind the 0."""
    size = 384 * kind + 32
    return answer[1:1 + size], answer[1 + size:]


class OrdinaryKeys(unittest.TestCase):
    def test_the_keys(self):
        for kind in KINDS:
            for d, z in SEEDS:
                openkey, secret = keys_of(kind, d, z)
                same = km_keys(kind, d, z) == [0] + openkey + secret
                self.assertTrue(same, f"kind {kind}, d {d}, z {z}")

    def test_lengths_and_bytes(self):
        for kind, whole in ((2, 1 + 800 + 1632), (3, 1 + 1184 + 2400), (4, 1 + 1568 + 3168)):
            for d, z in SEEDS:
                answer = km_keys(kind, d, z)
                self.assertEqual(len(answer), whole)
                self.assertEqual(answer[0], 0)
                self.assertTrue(all(0 <= number <= 255 for number in answer))

    def test_the_secret_key_holds_the_open_one_and_h_of_it_and_z(self):
        for kind in KINDS:
            for d, z in SEEDS:
                openkey, secret = parts(kind, km_keys(kind, d, z))
                self.assertEqual(secret[384 * kind:768 * kind + 32], openkey)
                self.assertEqual(secret[768 * kind + 32:768 * kind + 64], h_of(openkey))
                self.assertEqual(secret[768 * kind + 64:], z)

    def test_z_changes_the_last_bytes_alone(self):
        for kind in KINDS:
            one = km_keys(kind, message_of(32), [0] * 32)
            other = km_keys(kind, message_of(32), [255] * 32)
            self.assertEqual(one[:-32], other[:-32])
            self.assertEqual((one[-32:], other[-32:]), ([0] * 32, [255] * 32))

    def test_every_byte_of_d_counts(self):
        for kind in KINDS:
            usual = km_keys(kind, [0] * 32, [0] * 32)
            for place in (0, 15, 31):
                d = [0] * 32
                d[place] = 128
                self.assertNotEqual(km_keys(kind, d, [0] * 32)[1:], usual[1:])


class Refusals(unittest.TestCase):
    def test_no_such_kind(self):
        for kind in NO_KINDS:
            for d, z in SEEDS:
                self.assertEqual(km_keys(kind, d, z), [-1])


class TheCall(EveryCall, unittest.TestCase):
    function = staticmethod(km_keys)
    names = ["kind", "d", "z"]
    calls = CALLS


if __name__ == "__main__":
    unittest.main()
