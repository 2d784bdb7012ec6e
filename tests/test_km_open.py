"""Promise 4: km_open."""

import unittest

from helper import (KINDS, NO_KINDS, EveryCall, bytes_of, h_of, j_of, keys_of, message_in, message_of, numbers_of,
                    seal_and_key_of)
from latticeseal.desk import km_keys, km_open, km_seal, unsealed

SEAL_SIZES = {2: 768, 3: 1088, 4: 1568}
FIRST_PARTS = {2: 640, 3: 960, 4: 1408}
Z = message_of(32, 99)
MESSAGES = ([0] * 32, [255] * 32, message_of(32), [1] + [0] * 31, [0] * 31 + [128])


def odd_seals(kind):
    """Seals that nobody made: the least and the greatest bytes among them."""
    size = SEAL_SIZES[kind]
    return [0] * size, [255] * size, message_of(size), message_of(size, 111), [0, 255] * (size // 2)


def with_bit_turned(data, place, bit):
    return data[:place] + [data[place] ^ 1 << bit] + data[place + 1:]


def raised(data):
    """Numbers in 12 bits, 3329 more each where there's room for it."""
    numbers = [number + 3329 if number < 767 else number for part in numbers_of(data, 12) for number in part]
    return bytes_of(numbers, 12)


def made(kind, d=message_of(32), m=message_of(32, 5)):
    """The secret key, a seal by its open key, and the sealed key, all by the rules in helper."""
    openkey, secret = keys_of(kind, d, Z)
    seal, key = seal_and_key_of(kind, openkey, m)
    return secret, seal, key


MADE = {kind: made(kind) for kind in KINDS}


class Round(unittest.TestCase):
    def test_what_is_sealed_is_opened(self):
        for kind in KINDS:
            for d in ([0] * 32, [255] * 32, message_of(32)):
                answer = km_keys(kind, d, Z)
                openkey, secret = answer[1:384 * kind + 33], answer[384 * kind + 33:]
                for m in MESSAGES:
                    sealed = km_seal(kind, openkey, m)
                    self.assertEqual(km_open(kind, secret, sealed[1:-32]), [0] + sealed[-32:])

    def test_keys_and_seals_made_elsewhere(self):
        for kind in KINDS:
            for d in ([0] * 32, message_of(32, 50)):
                for m in MESSAGES[:3]:
                    secret, seal, key = made(kind, d, m)
                    self.assertEqual(km_open(kind, secret, seal), [0] + key)


class OtherSeals(unittest.TestCase):
    def test_one_bit_turned(self):
        for kind in KINDS:
            secret, seal, key = MADE[kind]
            cut = FIRST_PARTS[kind]
            for place in (0, 1, cut // 2, cut - 1, cut, cut + 1, len(seal) - 1):
                for bit in (0, 7):
                    turned = with_bit_turned(seal, place, bit)
                    answer = km_open(kind, secret, turned)
                    self.assertEqual(answer, [0] + j_of(Z + turned))
                    self.assertNotEqual(answer[1:], key)

    def test_any_bytes(self):
        for kind in KINDS:
            secret = MADE[kind][0]
            for seal in odd_seals(kind):
                self.assertEqual(km_open(kind, secret, seal), [0] + j_of(Z + seal))

    def test_a_seal_for_another_open_key(self):
        for kind in KINDS:
            secret = MADE[kind][0]
            seal = made(kind, [7] * 32)[1]
            self.assertEqual(km_open(kind, secret, seal), [0] + j_of(Z + seal))

    def test_the_right_message_with_another_seed(self):
        # The seal of the message by another seed unseals to it all the same, but isn't this very seal.
        for kind in KINDS:
            openkey, secret = keys_of(kind, message_of(32), Z)
            other_sum = openkey[:-1] + [openkey[-1] ^ 1]
            seal = seal_and_key_of(kind, openkey, MESSAGES[2])[0]
            self.assertEqual(unsealed(kind, secret[:384 * kind], seal), MESSAGES[2])
            changed = secret[:384 * kind] + other_sum + h_of(other_sum) + Z
            self.assertEqual(km_open(kind, changed, seal), [0] + j_of(Z + seal))

    def test_z_counts_where_the_seal_is_another(self):
        for kind in KINDS:
            secret, seal, key = MADE[kind]
            for z in ([0] * 32, [255] * 32):
                other = secret[:-32] + z
                turned = with_bit_turned(seal, 0, 0)
                self.assertEqual(km_open(kind, other, turned), [0] + j_of(z + turned))
                self.assertEqual(km_open(kind, other, seal), [0] + key)


class Unsealed(unittest.TestCase):
    def test_messages(self):
        for kind in KINDS:
            openkey, secret = keys_of(kind, message_of(32), Z)
            for m in MESSAGES:
                seal = seal_and_key_of(kind, openkey, m)[0]
                self.assertEqual(unsealed(kind, secret[:384 * kind], seal), m)

    def test_any_bytes(self):
        for kind in KINDS:
            for own in (MADE[kind][0][:384 * kind], [0] * 384 * kind, [255] * 384 * kind, message_of(384 * kind)):
                for seal in odd_seals(kind):
                    self.assertEqual(unsealed(kind, own, seal), message_in(kind, own, seal))


class SecretKeys(unittest.TestCase):
    def test_own_numbers_are_read_modulo_3329(self):
        for kind in KINDS:
            secret, seal, key = MADE[kind]
            own = raised(secret[:384 * kind])
            self.assertNotEqual(own, secret[:384 * kind])
            self.assertEqual(km_open(kind, own + secret[384 * kind:], seal), [0] + key)

    def test_any_own_bytes(self):
        for kind in KINDS:
            secret, seal, key = MADE[kind]
            for own in ([255] * 384 * kind, [0] * 384 * kind, message_of(384 * kind)):
                for each in odd_seals(kind) + (seal,):
                    self.assertEqual(km_open(kind, own + secret[384 * kind:], each), [0] + j_of(Z + each))

    def test_an_open_key_with_great_numbers_is_not_refused(self):
        # Only km_seal refuses such an open key; here it's read modulo 3329 as well.
        for kind in KINDS:
            openkey, secret = keys_of(kind, message_of(32), Z)
            great = raised(openkey[:-32]) + openkey[-32:]
            self.assertEqual(km_seal(kind, great, MESSAGES[2]), [-2])
            seal, key = seal_and_key_of(kind, great, MESSAGES[2])
            changed = secret[:384 * kind] + great + h_of(great) + Z
            self.assertEqual(km_open(kind, changed, seal), [0] + key)


class Refusals(unittest.TestCase):
    def test_no_such_kind(self):
        for kind in NO_KINDS:
            self.assertEqual(km_open(kind, [], []), [-1])

    def test_the_open_key_or_the_sum_behind_it_is_changed(self):
        for kind in KINDS:
            secret, seal, key = MADE[kind]
            start, end = 384 * kind, 768 * kind + 64
            for place in (start, start + 1, 768 * kind - 1, 768 * kind, end - 33, end - 32, end - 31, end - 1):
                for bit in (0, 7):
                    changed = with_bit_turned(secret, place, bit)
                    self.assertEqual(km_open(kind, changed, seal), [-2])
                    self.assertEqual(km_open(kind, changed, odd_seals(kind)[0]), [-2])

    def test_the_least_and_the_greatest_bytes(self):
        for kind in KINDS:
            for byte in (0, 255):
                self.assertEqual(km_open(kind, [byte] * (768 * kind + 96), odd_seals(kind)[0]), [-2])

    def test_what_stands_about_them_may_be_changed(self):
        for kind in KINDS:
            secret, seal, key = MADE[kind]
            for place in (0, 384 * kind - 1, 768 * kind + 64, 768 * kind + 95):
                self.assertEqual(km_open(kind, with_bit_turned(secret, place, 0), seal)[0], 0)


CALLS = (
    (2, MADE[2][0], MADE[2][1]), (3, MADE[3][0], MADE[3][1]), (4, MADE[4][0], MADE[4][1]),
    (2, MADE[2][0], odd_seals(2)[1]), (4, MADE[4][0], odd_seals(4)[2]),
    (3, with_bit_turned(MADE[3][0], 1152, 0), MADE[3][1]), (1, [], []), (5, [], []),
)


class TheCall(EveryCall, unittest.TestCase):
    function = staticmethod(km_open)
    names = ["kind", "secret", "seal"]
    calls = CALLS


if __name__ == "__main__":
    unittest.main()
