"""What several tests need: inputs, a watch over calls, and the document's rules written a second time.

The rules here take other ways than the program does: the sums are hashlib's, bits are cut out of one great
number, and a polynomial is transformed by taking its remainders.
"""

import contextlib
import hashlib
import io
import sys

SMALLEST = -2147483648
LARGEST = 2147483647

KINDS = (2, 3, 4)
NO_KINDS = (SMALLEST, SMALLEST + 1, -4, -3, -2, -1, 0, 1, 5, 6, 258, LARGEST - 1, LARGEST)

PRIME = 3329
NOISE_SIZES = {2: 3, 3: 2, 4: 2}


def message_of(count, first=0):
    """Bytes in which every value and no short period occurs."""
    return [(n * n + 7 * n + n // 256 + first) % 256 for n in range(count)]


class Watched(list):
    """A list that refuses to be changed, even for a while."""

    def refuse(self, *args, **kwargs):
        raise AssertionError("what is handed in was changed")

    __setitem__ = __delitem__ = __iadd__ = __imul__ = refuse
    append = extend = insert = pop = remove = clear = sort = reverse = refuse


AUDITED = {"on": False, "events": []}


def audit(event, args):
    if AUDITED["on"]:
        AUDITED["events"].append(event)


sys.addaudithook(audit)


def seen_beside_the_answer(function, call):
    """What a call prints, what Python's audit tells of it, and which modules it loads."""
    printed = io.StringIO()
    modules = set(sys.modules)
    AUDITED["events"].clear()
    with contextlib.redirect_stdout(printed), contextlib.redirect_stderr(printed):
        AUDITED["on"] = True
        try:
            function(*call)
        finally:
            AUDITED["on"] = False
    return printed.getvalue(), list(AUDITED["events"]), set(sys.modules) - modules


def h_of(data):
    return list(hashlib.sha3_256(bytes(data)).digest())


def g_of(data):
    return list(hashlib.sha3_512(bytes(data)).digest())


def bits_the_other_way_round(i):
    return int(f"{i:07b}"[::-1], 2)


# By i: the number that x squared is in the i-th pair.
SQUARES = [pow(17, 2 * bits_the_other_way_round(i) + 1, PRIME) for i in range(128)]
SQUARES_TO = [[pow(square, j, PRIME) for j in range(128)] for square in SQUARES]


def remainders(numbers):
    """A polynomial transformed: its remainders by x squared less each of the squares."""
    pairs = []
    for powers in SQUARES_TO:
        pairs.append(sum(a * power for a, power in zip(numbers[0::2], powers)) % PRIME)
        pairs.append(sum(a * power for a, power in zip(numbers[1::2], powers)) % PRIME)
    return pairs


def multiplied(first, second):
    """The product of two polynomials, x to the 256 being -1."""
    answer = [0] * 256
    for i, a in enumerate(first):
        for j, b in enumerate(second):
            if i + j < 256:
                answer[i + j] += a * b
            else:
                answer[i + j - 256] -= a * b
    return [number % PRIME for number in answer]


def multiplied_by_pairs(first, second):
    answer = []
    for i, square in enumerate(SQUARES):
        a0, a1 = first[2 * i:2 * i + 2]
        b0, b1 = second[2 * i:2 * i + 2]
        answer += [(a0 * b0 + square * a1 * b1) % PRIME, (a0 * b1 + a1 * b0) % PRIME]
    return answer


def plus(*polynomials):
    return [sum(numbers) % PRIME for numbers in zip(*polynomials)]


def dot_of(firsts, seconds):
    return plus(*[multiplied_by_pairs(first, second) for first, second in zip(firsts, seconds)])


def bytes_of(numbers, size):
    """Numbers of size bits each, the lowest bit first."""
    whole = sum(number << size * n for n, number in enumerate(numbers))
    return list(whole.to_bytes(len(numbers) * size // 8, "little"))


def numbers_of(data, size):
    """Numbers of size bits each, as they stand, in lists of 256."""
    whole = int.from_bytes(bytes(data), "little")
    numbers = [(whole >> size * n) % 2 ** size for n in range(len(data) * 8 // size)]
    return [numbers[start:start + 256] for start in range(0, len(numbers), 256)]


def uniform_of(seed):
    data = hashlib.shake_128(bytes(seed)).digest(3024)
    numbers = numbers_of(data, 12)
    return [number for part in numbers for number in part if number < PRIME][:256]


def noise_of(e, seed, n):
    data = hashlib.shake_256(bytes(seed) + bytes([n])).digest(64 * e)
    groups = [number for part in numbers_of(data, 2 * e) for number in part]
    return [((group % 2 ** e).bit_count() - (group >> e).bit_count()) % PRIME for group in groups]


def keys_of(kind, d, z):
    """The open key and the secret one."""
    both = g_of(d + [kind])
    rho, seed = both[:32], both[32:]
    e = NOISE_SIZES[kind]
    own = [remainders(noise_of(e, seed, i)) for i in range(kind)]
    shown = []
    for i in range(kind):
        row = [uniform_of(rho + [j, i]) for j in range(kind)]
        shown.append(plus(dot_of(row, own), remainders(noise_of(e, seed, kind + i))))
    openkey = bytes_of(sum(shown, []), 12) + rho
    return openkey, bytes_of(sum(own, []), 12) + openkey + h_of(openkey) + z
