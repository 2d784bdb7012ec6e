"""The tables that desk.py writes out, made anew by the rules of the document."""

import unittest

from latticeseal.desk import CONSTANTS, MOVES, mixed


def moves_by_rule():
    turns = {(0, 0): 0}
    x, y = 1, 0
    for t in range(24):
        turns[(x, y)] = (t + 1) * (t + 2) // 2 % 64
        x, y = y, (2 * x + 3 * y) % 5
    moves = []
    for number in range(25):
        x, y = number % 5, number // 5
        source = ((x + 3 * y) % 5, x)
        moves.append((source[0] + 5 * source[1], turns[source]))
    return tuple(moves)


def register_after(steps):
    register = 1
    for _ in range(steps):
        register *= 2
        if register >= 256:
            register = (register - 256) ^ 113
    return register


def constants_by_rule():
    return tuple(sum(register_after(7 * i + j) % 2 << 2 ** j - 1 for j in range(7)) for i in range(24))


class Tables(unittest.TestCase):
    def test_moves(self):
        self.assertEqual(MOVES, moves_by_rule())

    def test_constants(self):
        self.assertEqual(CONSTANTS, constants_by_rule())


class Mixed(unittest.TestCase):
    def test_words_of_0(self):
        # The first words of Keccak-f[1600] of 0, as its authors publish them.
        words = mixed([0] * 25)
        self.assertEqual(words[:3], [0xF1258F7940E1DDE7, 0x84D5CCF933C0478A, 0xD598261EA65AA9EE])

    def test_words_handed_in_stay(self):
        words = list(range(25))
        mixed(words)
        self.assertEqual(words, list(range(25)))


if __name__ == "__main__":
    unittest.main()
