"""The parts that keys and seals are made of, each against the document's rule for it."""

import hashlib
import unittest
from unittest import mock

import helper
from latticeseal import desk

ONE = [1] + [0] * 255
EDGES = ([0] * 256, [3328] * 256, ONE, [0] * 255 + [1], [0] * 255 + [3328], [0, 1] * 128)


def polynomial_of(step, first):
    return [(step * n * n + first * n + first) % 3329 for n in range(256)]


POLYNOMIALS = EDGES + (polynomial_of(1, 2), polynomial_of(77, 5), polynomial_of(1234, 3000))


class Transforms(unittest.TestCase):
    def test_powers(self):
        by_rule = tuple(pow(17, helper.bits_the_other_way_round(i), 3329) for i in range(128))
        self.assertEqual(desk.POWERS, by_rule)

    def test_transformed_is_the_remainders(self):
        for numbers in POLYNOMIALS:
            self.assertEqual(desk.transformed(numbers), helper.remainders(numbers))

    def test_back_is_the_polynomial_of_the_remainders(self):
        for numbers in POLYNOMIALS:
            self.assertEqual(desk.back(numbers), helper.from_remainders(numbers))
            self.assertEqual(desk.back(helper.remainders(numbers)), numbers)

    def test_what_is_transformed_stays(self):
        for numbers in POLYNOMIALS:
            before = list(numbers)
            desk.transformed(helper.Watched(numbers))
            desk.back(helper.Watched(numbers))
            self.assertEqual(numbers, before)


class Products(unittest.TestCase):
    def test_product_is_that_of_the_polynomials(self):
        for first in POLYNOMIALS[3:]:
            for second in POLYNOMIALS[-2:]:
                got = desk.product(desk.transformed(first), desk.transformed(second))
                self.assertEqual(got, helper.remainders(helper.multiplied(first, second)))

    def test_product_of_the_greatest_numbers(self):
        for first in EDGES:
            for second in EDGES:
                self.assertEqual(desk.product(first, second), helper.multiplied_by_pairs(first, second))

    def test_dot(self):
        firsts = list(POLYNOMIALS[-4:])
        seconds = list(POLYNOMIALS[:4])
        for count in (1, 2, 3, 4):
            got = desk.dot(firsts[:count], seconds[:count])
            self.assertEqual(got, helper.dot_of(firsts[:count], seconds[:count]))

    def test_added(self):
        self.assertEqual(desk.added([0, 3328, 3328, 1], [0, 1, 3328, 3327]), [0, 0, 3327, 3328])


class Bits(unittest.TestCase):
    def test_lowest_bit_first(self):
        self.assertEqual(desk.in_bits([[1] + [0] * 255], 12), [1] + [0] * 383)
        self.assertEqual(desk.in_bits([[0, 1] + [0] * 254], 12), [0, 16] + [0] * 382)
        self.assertEqual(desk.in_bits([[0xABC, 0x123] + [0] * 254], 12), [0xBC, 0x3A, 0x12] + [0] * 381)
        self.assertEqual(desk.in_bits([[0] * 255 + [0xABC]], 12), [0] * 382 + [0xC0, 0xAB])

    def test_written_in_any_size(self):
        for size in (1, 4, 5, 10, 11, 12):
            numbers = [(n * n + 3 * n) % 2 ** size for n in range(256)]
            greatest = [2 ** size - 1] * 256
            for polynomials in ([numbers], [greatest], [greatest, numbers], [numbers] * 4):
                got = desk.in_bits(polynomials, size)
                self.assertEqual(len(got), 32 * size * len(polynomials))
                self.assertEqual(got, helper.bytes_of(sum(polynomials, []), size))

    def test_read_in_any_size(self):
        for size in (1, 4, 5, 10, 11, 12):
            for count in (1, 2, 4):
                for data in (helper.message_of(32 * size * count), [255] * (32 * size * count)):
                    wanted = [[number % 3329 for number in part] for part in helper.numbers_of(data, size)]
                    self.assertEqual(desk.read(data, size), wanted)

    def test_12_bits_are_read_modulo_3329(self):
        data = helper.bytes_of([3328, 3329, 3330, 4095] + [0] * 252, 12)
        self.assertEqual(desk.read(data, 12), [[3328, 0, 1, 766] + [0] * 252])


class Sizes(unittest.TestCase):
    SIZES = (1, 4, 5, 10, 11)

    def test_every_number_squeezed(self):
        for size in self.SIZES:
            for start in range(0, 3329, 256):
                numbers = [min(start + n, 3328) for n in range(256)]
                wanted = helper.bytes_of([helper.squeezed_number(number, size) for number in numbers], size)
                self.assertEqual(desk.squeezed([numbers], size), wanted)

    def test_every_number_widened(self):
        for size in self.SIZES:
            for start in range(0, 2 ** size, 256):
                numbers = [(start + n) % 2 ** size for n in range(256)]
                wanted = [helper.widened_number(number, size) for number in numbers]
                self.assertEqual(desk.widened(helper.bytes_of(numbers, size), size), [wanted])

    def test_written_edges(self):
        # To 1 bit: 1 from a quarter of 3329 to three quarters of it.
        numbers = [0, 832, 833, 1664, 1665, 2496, 2497, 3328] * 32
        self.assertEqual(desk.squeezed([numbers], 1), helper.bytes_of([0, 0, 1, 1, 1, 1, 0, 0] * 32, 1))
        # The nearest to 3328 is 2 to the size, which is 0.
        self.assertEqual(desk.squeezed([[3328] * 256], 4), [0] * 128)
        # A half goes up: 3329 / 2 is 1664 and a half.
        self.assertEqual(desk.widened([255] * 32, 1), [[1665] * 256])
        self.assertEqual(desk.widened([0x88] * 128, 4), [[1665] * 256])

    def test_several_polynomials(self):
        for size in self.SIZES:
            numbers = [[(n * n + m) % 3329 for n in range(256)] for m in range(3)]
            got = desk.squeezed(numbers, size)
            self.assertEqual(got, sum([desk.squeezed([part], size) for part in numbers], []))
            self.assertEqual(desk.widened(got, size), sum([desk.widened(desk.squeezed([part], size), size)
                                                           for part in numbers], []))


class Uniform(unittest.TestCase):
    def test_three_bytes_make_two_numbers(self):
        self.assertEqual(desk.fitting([0xBC, 0x3A, 0x12]), [0xABC, 0x123])

    def test_numbers_about_3329(self):
        # 3328 is 0xD00, 3329 is 0xD01.
        self.assertEqual(desk.fitting([0x00, 0x0D, 0xD0]), [3328, 3328])
        self.assertEqual(desk.fitting([0x01, 0x0D, 0x00]), [0])
        self.assertEqual(desk.fitting([0x00, 0x10, 0xD0]), [0])
        self.assertEqual(desk.fitting([0xFF, 0xFF, 0xFF]), [])

    def test_seeds(self):
        for first in range(20):
            seed = helper.message_of(34, first)
            self.assertEqual(desk.uniform(seed), helper.uniform_of(seed))

    def test_seeds_whose_numbers_come_late(self):
        # Seeds of whose first 504 bytes fewer than 256 numbers are below 3329.
        late = []
        for n in range(1000):
            seed = [n % 256, n // 256] + [0] * 32
            start = hashlib.shake_128(bytes(seed)).digest(504)
            if sum(number < 3329 for part in helper.numbers_of(start, 12) for number in part) < 256:
                late.append(seed)
        self.assertGreaterEqual(len(late), 3)
        for seed in late:
            self.assertEqual(desk.uniform(seed), helper.uniform_of(seed))

    def uniform_by_sum(self, data):
        """The uniform polynomial, if the sum's 3024 bytes were these."""
        with mock.patch.object(desk, "sum_by", lambda which, message, length: data[:length]):
            return desk.uniform([0] * 34)

    def test_fewer_than_256_numbers(self):
        # No seed is known whose sum holds too few, so the sum itself is put in.
        self.assertEqual(self.uniform_by_sum([255] * 3024), [0] * 256)
        self.assertEqual(self.uniform_by_sum([255] * 3021 + [0xBC, 0x3A, 0x12]), [0xABC, 0x123] + [0] * 254)
        self.assertEqual(self.uniform_by_sum([0xBC, 0x3A, 0x12] + [255] * 3021), [0xABC, 0x123] + [0] * 254)
        self.assertEqual(self.uniform_by_sum([1, 0, 255] * 127 + [255] * 2643), [1] * 127 + [0] * 129)

    def test_just_256_numbers_and_more(self):
        self.assertEqual(self.uniform_by_sum([0xBC, 0x3A, 0x12] * 128 + [255] * 2640), [0xABC, 0x123] * 128)
        self.assertEqual(self.uniform_by_sum([255] * 2640 + [0xBC, 0x3A, 0x12] * 128), [0xABC, 0x123] * 128)
        self.assertEqual(self.uniform_by_sum([0xBC, 0x3A, 0x12] * 1008), [0xABC, 0x123] * 128)


class Noise(unittest.TestCase):
    def test_small_of_2(self):
        # By four bits, the lowest first: 1 0 0 0, 1 1 0 0, 0 0 1 0, 0 0 1 1, 1 1 1 1, 0 1 1 0.
        data = [0x31, 0xC4, 0x6F]
        self.assertEqual(desk.small(2, data + [0] * 125), [1, 2, 3328, 3327, 0, 0] + [0] * 250)

    def test_small_of_3(self):
        # By six bits, the lowest first: 1 1 1 0 0 0, 0 0 0 1 1 1, 1 1 0 0 0 1, 1 1 1 1 1 1.
        data = [0x07, 0x3E, 0xFE]
        self.assertEqual(desk.small(3, data + [0] * 189), [3, 3326, 1, 0] + [0] * 252)

    def test_small_of_the_least_and_the_greatest_bytes(self):
        for e in (2, 3):
            self.assertEqual(desk.small(e, [0] * 64 * e), [0] * 256)
            self.assertEqual(desk.small(e, [255] * 64 * e), [0] * 256)

    def test_noise(self):
        for e in (2, 3):
            for seed in ([0] * 32, [255] * 32, helper.message_of(32)):
                for n in (0, 1, 2, 8):
                    self.assertEqual(desk.noise(e, seed, n), helper.noise_of(e, seed, n))


if __name__ == "__main__":
    unittest.main()
