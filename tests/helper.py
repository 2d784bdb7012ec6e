"""What several tests need: inputs, what holds for every call, and the document's rules written a second time.

The rules here take other ways than the program does: the sums are hashlib's, bits are cut out of one great
number, and a polynomial is transformed by taking its remainders.
"""

import contextlib
import copy
import hashlib
import inspect
import io
import math
import sys
from fractions import Fraction

SMALLEST = -2147483648
LARGEST = 2147483647

KINDS = (2, 3, 4)
NO_KINDS = (SMALLEST, SMALLEST + 1, -4, -3, -2, -1, 0, 1, 5, 6, 258, LARGEST - 1, LARGEST)

PRIME = 3329
NOISE_SIZES = {2: 3, 3: 2, 4: 2}
U_SIZES = {2: 10, 3: 10, 4: 11}
V_SIZES = {2: 4, 3: 4, 4: 5}


def message_of(count, first=0):
    """Bytes in which every value and no short period occurs."""
    return [(n * n + 7 * n + n // 256 + first) % 256 for n in range(count)]


class Watched(list):
    """A list that refuses to be changed, even for a while."""

    def refuse(self, *args, **kwargs):
        raise AssertionError("what is handed in was changed")

    __setitem__ = __delitem__ = __iadd__ = __imul__ = refuse
    append = extend = insert = pop = remove = clear = sort = reverse = refuse


AUDITED = {"on": False, "events": []}


def audit(event, args):
    if AUDITED["on"]:
        AUDITED["events"].append(event)


sys.addaudithook(audit)


def seen_beside_the_answer(function, call):
    """What a call prints, what Python's audit tells of it, and which modules it loads."""
    printed = io.StringIO()
    modules = set(sys.modules)
    AUDITED["events"].clear()
    with contextlib.redirect_stdout(printed), contextlib.redirect_stderr(printed):
        AUDITED["on"] = True
        try:
            function(*call)
        finally:
            AUDITED["on"] = False
    return printed.getvalue(), list(AUDITED["events"]), set(sys.modules) - modules


class EveryCall:
    """What holds for every call: a test case has its function, the names of its parameters, and some calls of it."""

    def test_the_names_of_what_is_handed_in(self):
        self.assertEqual(list(inspect.signature(self.function).parameters), self.names)

    def test_one_list_of_whole_numbers(self):
        for call in self.calls:
            answer = self.function(*call)
            self.assertIs(type(answer), list)
            self.assertEqual({type(number) for number in answer}, {int})
            self.assertTrue(answer[0] == 0 or len(answer) == 1)
            self.assertTrue(all(0 <= number <= 255 for number in answer[1:]))

    def test_what_is_handed_in_is_not_changed(self):
        for call in self.calls:
            before = copy.deepcopy(call)
            answer = self.function(*call)
            self.assertEqual(call, before)
            watched = [Watched(each) if isinstance(each, list) else each for each in call]
            self.assertEqual(self.function(*watched), answer)

    def test_the_answer_is_a_list_of_its_own(self):
        for call in self.calls:
            before = copy.deepcopy(call)
            answer = self.function(*call)
            kept = list(answer)
            for place in range(len(answer)):
                answer[place] = 77
            answer.append(88)
            self.assertEqual(call, before)
            self.assertEqual(self.function(*call), kept)

    def test_nothing_is_kept_between_calls(self):
        forth = [self.function(*call) for call in self.calls]
        back = [self.function(*call) for call in reversed(self.calls)]
        self.assertEqual(forth, back[::-1])

    def test_nothing_is_printed_read_or_imported(self):
        for call in self.calls:
            self.assertEqual(seen_beside_the_answer(self.function, call), ("", [], set()))


def h_of(data):
    return list(hashlib.sha3_256(bytes(data)).digest())


def g_of(data):
    return list(hashlib.sha3_512(bytes(data)).digest())


def bits_the_other_way_round(i):
    return int(f"{i:07b}"[::-1], 2)


# By i: the number that x squared is in the i-th pair.
SQUARES = [pow(17, 2 * bits_the_other_way_round(i) + 1, PRIME) for i in range(128)]
SQUARES_TO = [[pow(square, j, PRIME) for j in range(128)] for square in SQUARES]


def remainders(numbers):
    """A polynomial transformed: its remainders by x squared less each of the squares."""
    pairs = []
    for powers in SQUARES_TO:
        pairs.append(sum(a * power for a, power in zip(numbers[0::2], powers)) % PRIME)
        pairs.append(sum(a * power for a, power in zip(numbers[1::2], powers)) % PRIME)
    return pairs


def from_remainders(pairs):
    """The polynomial that has these remainders."""
    answer = []
    for j in range(128):
        for part in (pairs[0::2], pairs[1::2]):
            total = sum(number * pow(square, -j, PRIME) for number, square in zip(part, SQUARES))
            answer.append(total * pow(128, -1, PRIME) % PRIME)
    return answer


def multiplied(first, second):
    """The product of two polynomials, x to the 256 being -1."""
    answer = [0] * 256
    for i, a in enumerate(first):
        for j, b in enumerate(second):
            if i + j < 256:
                answer[i + j] += a * b
            else:
                answer[i + j - 256] -= a * b
    return [number % PRIME for number in answer]


def multiplied_by_pairs(first, second):
    answer = []
    for i, square in enumerate(SQUARES):
        a0, a1 = first[2 * i:2 * i + 2]
        b0, b1 = second[2 * i:2 * i + 2]
        answer += [(a0 * b0 + square * a1 * b1) % PRIME, (a0 * b1 + a1 * b0) % PRIME]
    return answer


def plus(*polynomials):
    return [sum(numbers) % PRIME for numbers in zip(*polynomials)]


def dot_of(firsts, seconds):
    return plus(*[multiplied_by_pairs(first, second) for first, second in zip(firsts, seconds)])


def bytes_of(numbers, size):
    """Numbers of size bits each, the lowest bit first."""
    whole = sum(number << size * n for n, number in enumerate(numbers))
    return list(whole.to_bytes(len(numbers) * size // 8, "little"))


def numbers_of(data, size):
    """Numbers of size bits each, as they stand, in lists of 256."""
    whole = int.from_bytes(bytes(data), "little")
    numbers = [(whole >> size * n) % 2 ** size for n in range(len(data) * 8 // size)]
    return [numbers[start:start + 256] for start in range(0, len(numbers), 256)]


def nearest(number):
    return math.floor(number + Fraction(1, 2))


def squeezed_number(number, size):
    return nearest(Fraction(2 ** size, PRIME) * number) % 2 ** size


def widened_number(number, size):
    return nearest(Fraction(PRIME, 2 ** size) * number)


def uniform_of(seed):
    data = hashlib.shake_128(bytes(seed)).digest(3024)
    numbers = numbers_of(data, 12)
    return [number for part in numbers for number in part if number < PRIME][:256]


def noise_of(e, seed, n):
    data = hashlib.shake_256(bytes(seed) + bytes([n])).digest(64 * e)
    groups = [number for part in numbers_of(data, 2 * e) for number in part]
    return [((group % 2 ** e).bit_count() - (group >> e).bit_count()) % PRIME for group in groups]


def keys_of(kind, d, z):
    """The open key and the secret one."""
    both = g_of(d + [kind])
    rho, seed = both[:32], both[32:]
    e = NOISE_SIZES[kind]
    own = [remainders(noise_of(e, seed, i)) for i in range(kind)]
    shown = []
    for i in range(kind):
        row = [uniform_of(rho + [j, i]) for j in range(kind)]
        shown.append(plus(dot_of(row, own), remainders(noise_of(e, seed, kind + i))))
    openkey = bytes_of(sum(shown, []), 12) + rho
    return openkey, bytes_of(sum(own, []), 12) + openkey + h_of(openkey) + z


def seal_of(kind, openkey, m, seed):
    """A message sealed with a seed."""
    shown = [[number % PRIME for number in part] for part in numbers_of(openkey[:384 * kind], 12)]
    rho = openkey[384 * kind:]
    hidden = [remainders(noise_of(NOISE_SIZES[kind], seed, i)) for i in range(kind)]
    seal = []
    for i in range(kind):
        column = [uniform_of(rho + [i, j]) for j in range(kind)]
        part = plus(from_remainders(dot_of(column, hidden)), noise_of(2, seed, kind + i))
        seal += bytes_of([squeezed_number(number, U_SIZES[kind]) for number in part], U_SIZES[kind])
    message = [1665 * bit for bit in numbers_of(m, 1)[0]]
    part = plus(from_remainders(dot_of(shown, hidden)), noise_of(2, seed, 2 * kind), message)
    return seal + bytes_of([squeezed_number(number, V_SIZES[kind]) for number in part], V_SIZES[kind])


def seal_and_key_of(kind, openkey, m):
    both = g_of(m + h_of(openkey))
    return seal_of(kind, openkey, m, both[32:]), both[:32]


def message_in(kind, own, seal):
    """A seal unsealed."""
    size = 32 * U_SIZES[kind] * kind
    firsts = [[widened_number(number, U_SIZES[kind]) for number in part]
              for part in numbers_of(seal[:size], U_SIZES[kind])]
    last = [widened_number(number, V_SIZES[kind]) for number in numbers_of(seal[size:], V_SIZES[kind])[0]]
    taken = from_remainders(dot_of(numbers_of(own, 12), [remainders(part) for part in firsts]))
    return bytes_of([squeezed_number((a - b) % PRIME, 1) for a, b in zip(last, taken)], 1)


def j_of(data):
    return list(hashlib.shake_256(bytes(data)).digest(32))
