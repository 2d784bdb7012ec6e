"""Promise 2: km_keys."""

import inspect
import unittest

from helper import KINDS, NO_KINDS, Watched, h_of, keys_of, message_of, seen_beside_the_answer
from latticeseal.desk import km_keys

SEEDS = (
    ([0] * 32, [0] * 32),
    ([255] * 32, [255] * 32),
    ([0] * 32, [255] * 32),
    (message_of(32), message_of(32, 99)),
    (message_of(32, 200), [0] * 31 + [1]),
    ([1] + [0] * 31, [1] + [0] * 31),
    ([0] * 31 + [1], message_of(32)),
)
CALLS = tuple((kind, list(d), list(z)) for kind in KINDS for d, z in SEEDS[:4]) + (
    (1, [0] * 32, [0] * 32), (5, message_of(32), message_of(32, 1)))


def parts(kind, answer):
    """The open key and the secret one, behind the 0."""
    size = 384 * kind + 32
    return answer[1:1 + size], answer[1 + size:]


class OrdinaryKeys(unittest.TestCase):
    def test_the_keys(self):
        for kind in KINDS:
            for d, z in SEEDS:
                openkey, secret = keys_of(kind, d, z)
                same = km_keys(kind, d, z) == [0] + openkey + secret
                self.assertTrue(same, f"kind {kind}, d {d}, z {z}")

    def test_lengths_and_bytes(self):
        for kind, whole in ((2, 1 + 800 + 1632), (3, 1 + 1184 + 2400), (4, 1 + 1568 + 3168)):
            for d, z in SEEDS:
                answer = km_keys(kind, d, z)
                self.assertEqual(len(answer), whole)
                self.assertEqual(answer[0], 0)
                self.assertTrue(all(0 <= number <= 255 for number in answer))

    def test_the_secret_key_holds_the_open_one_and_h_of_it_and_z(self):
        for kind in KINDS:
            for d, z in SEEDS:
                openkey, secret = parts(kind, km_keys(kind, d, z))
                self.assertEqual(secret[384 * kind:768 * kind + 32], openkey)
                self.assertEqual(secret[768 * kind + 32:768 * kind + 64], h_of(openkey))
                self.assertEqual(secret[768 * kind + 64:], z)

    def test_z_changes_the_last_bytes_alone(self):
        for kind in KINDS:
            one = km_keys(kind, message_of(32), [0] * 32)
            other = km_keys(kind, message_of(32), [255] * 32)
            self.assertEqual(one[:-32], other[:-32])
            self.assertEqual((one[-32:], other[-32:]), ([0] * 32, [255] * 32))

    def test_every_byte_of_d_counts(self):
        for kind in KINDS:
            usual = km_keys(kind, [0] * 32, [0] * 32)
            for place in (0, 15, 31):
                d = [0] * 32
                d[place] = 128
                self.assertNotEqual(km_keys(kind, d, [0] * 32)[1:], usual[1:])


class Refusals(unittest.TestCase):
    def test_no_such_kind(self):
        for kind in NO_KINDS:
            for d, z in SEEDS:
                self.assertEqual(km_keys(kind, d, z), [-1])


class TheCall(unittest.TestCase):
    def test_the_names_of_what_is_handed_in(self):
        self.assertEqual(list(inspect.signature(km_keys).parameters), ["kind", "d", "z"])

    def test_one_list_of_whole_numbers(self):
        for call in CALLS:
            answer = km_keys(*call)
            self.assertIs(type(answer), list)
            self.assertEqual({type(number) for number in answer}, {int})

    def test_what_is_handed_in_is_not_changed(self):
        for kind, d, z in CALLS:
            before = list(d), list(z)
            answer = km_keys(kind, d, z)
            self.assertEqual((d, z), before)
            self.assertEqual(km_keys(kind, Watched(d), Watched(z)), answer)

    def test_the_answer_is_a_list_of_its_own(self):
        for kind, d, z in CALLS:
            before = list(d), list(z)
            answer = km_keys(kind, d, z)
            kept = list(answer)
            for place in range(len(answer)):
                answer[place] = 77
            self.assertEqual((d, z), before)
            self.assertEqual(km_keys(kind, d, z), kept)

    def test_nothing_is_kept_between_calls(self):
        forth = [km_keys(*call) for call in CALLS]
        back = [km_keys(*call) for call in reversed(CALLS)]
        self.assertEqual(forth, back[::-1])

    def test_nothing_is_printed_read_or_imported(self):
        for call in CALLS:
            self.assertEqual(seen_beside_the_answer(km_keys, call), ("", [], set()))


if __name__ == "__main__":
    unittest.main()
