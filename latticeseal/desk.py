"""The calls of the program, and the sums and polynomials that they stand on."""

# The most bytes that a message or a sum may have.
MOST_BYTES = 16777216

# By which: the rate, the mark and, for 0 and 1 alone, the one length that a sum has.
RATES = (136, 72, 168, 136)
MARKS = (6, 6, 31, 31)
FIXED_LENGTHS = (32, 64)

ALL_BITS = 0xFFFFFFFFFFFFFFFF

# For the word number x + 5y: the number of the word that comes to its place, and by how much that one is
# turned. Written out, like the constants below, because every mixing needs the same ones.
MOVES = (
    (0, 0), (6, 44), (12, 43), (18, 21), (24, 14),
    (3, 28), (9, 20), (10, 3), (16, 45), (22, 61),
    (1, 1), (7, 6), (13, 25), (19, 8), (20, 18),
    (4, 27), (5, 36), (11, 10), (17, 15), (23, 56),
    (2, 62), (8, 55), (14, 39), (15, 41), (21, 2),
)

# The constant of each i from 0 to 23.
CONSTANTS = (
    0x0000000000000001, 0x0000000000008082, 0x800000000000808A, 0x8000000080008000,
    0x000000000000808B, 0x0000000080000001, 0x8000000080008081, 0x8000000000008009,
    0x000000000000008A, 0x0000000000000088, 0x0000000080008009, 0x000000008000000A,
    0x000000008000808B, 0x800000000000008B, 0x8000000000008089, 0x8000000000008003,
    0x8000000000008002, 0x8000000000000080, 0x000000000000800A, 0x800000008000000A,
    0x8000000080008081, 0x8000000000008080, 0x0000000080000001, 0x8000000080008008,
)

# The numbers of a polynomial are modulo this one.
PRIME = 3329

# 17 to the seven bits of i the other way round, for each i from 0 to 127.
POWERS = (
    1, 1729, 2580, 3289, 2642, 630, 1897, 848, 1062, 1919, 193, 797, 2786, 3260, 569, 1746,
    296, 2447, 1339, 1476, 3046, 56, 2240, 1333, 1426, 2094, 535, 2882, 2393, 2879, 1974, 821,
    289, 331, 3253, 1756, 1197, 2304, 2277, 2055, 650, 1977, 2513, 632, 2865, 33, 1320, 1915,
    2319, 1435, 807, 452, 1438, 2868, 1534, 2402, 2647, 2617, 1481, 648, 2474, 3110, 1227, 910,
    17, 2761, 583, 2649, 1637, 723, 2288, 1100, 1409, 2662, 3281, 233, 756, 2156, 3015, 3050,
    1703, 1651, 2789, 1789, 1847, 952, 1461, 2687, 939, 2308, 2437, 2388, 733, 2337, 268, 641,
    1584, 2298, 2037, 3220, 375, 2549, 2090, 1645, 1063, 319, 2773, 757, 2099, 561, 2466, 2594,
    2804, 1092, 403, 1026, 1143, 2150, 2775, 886, 1722, 1212, 1874, 1029, 2110, 2935, 885, 2154,
)

KINDS = (2, 3, 4)

# By kind: the e of its noise; u and v, the bits that a number of a seal takes.
NOISE_SIZES = {2: 3, 3: 2, 4: 2}
U_SIZES = {2: 10, 3: 10, 4: 11}
V_SIZES = {2: 4, 3: 4, 4: 5}


def turned(word, places):
    """A word turned to the left."""
    return ((word << places) | (word >> (64 - places))) & ALL_BITS


def spread(words):
    """Mixing, the first part: the columns beside each word go into it."""
    columns = [words[x] ^ words[x + 5] ^ words[x + 10] ^ words[x + 15] ^ words[x + 20] for x in range(5)]
    changes = [columns[(x + 4) % 5] ^ turned(columns[(x + 1) % 5], 1) for x in range(5)]
    return [word ^ change for word, change in zip(words, changes * 5)]


def moved(words):
    """Mixing, the second part: the words are turned and change places."""
    return [turned(words[source], places) for source, places in MOVES]


def crossed(words):
    """Mixing, the third part: the two words that follow in the row go into each word."""
    answer = []
    for start in range(0, 25, 5):
        row = words[start:start + 5]
        second = row[1:] + row[:1]
        third = row[2:] + row[:2]
        answer.extend([a ^ ((b ^ ALL_BITS) & c) for a, b, c in zip(row, second, third)])
    return answer


def mixed(words):
    """The twenty-five words mixed, as a new list."""
    state = words
    for constant in CONSTANTS:
        state = crossed(moved(spread(state)))
        state[0] = state[0] ^ constant
    return state


def filled_up(message, rate, mark):
    """A copy of the message with the mark behind it, up to the end of a block."""
    tail = [0] * (rate - len(message) % rate)
    tail[0] = mark
    # Added, because in a tail of one byte the mark stands there already.
    tail[-1] = tail[-1] + 128
    return message + tail


def word_of(eight):
    """The word that eight bytes are, the lowest first."""
    word = 0
    for byte in reversed(eight):
        word = (word << 8) | byte
    return word


def taken_in(words, block):
    """The words after one more block of the message."""
    size = len(block) // 8
    first = [words[n] ^ word_of(block[8 * n:8 * n + 8]) for n in range(size)]
    return mixed(first + words[size:])


def first_bytes(words, rate):
    """The words' first bytes, as many as the rate is."""
    answer = []
    for word in words[:rate // 8]:
        answer.extend([(word >> shift) & 255 for shift in range(0, 64, 8)])
    return answer


def sum_of(message, rate, mark, length):
    """The sum of a message by a rate and a mark: a list of length bytes."""
    whole = filled_up(message, rate, mark)
    words = [0] * 25
    for start in range(0, len(whole), rate):
        words = taken_in(words, whole[start:start + rate])
    answer = first_bytes(words, rate)
    while len(answer) < length:
        words = mixed(words)
        answer.extend(first_bytes(words, rate))
    return answer[:length]


def sum_by(which, message, length):
    """The sum of a message by the rate and the mark of which."""
    return sum_of(message, RATES[which], MARKS[which], length)


def h_of(message):
    """The 32 bytes that the document calls H."""
    return sum_by(0, message, 32)


def g_of(message):
    """The 64 bytes that the document calls G."""
    return sum_by(1, message, 64)


def added(first, second):
    """The sum of two polynomials."""
    return [(a + b) % PRIME for a, b in zip(first, second)]


def transformed(numbers):
    """A polynomial transformed."""
    answer = numbers
    for half in (128, 64, 32, 16, 8, 4, 2):
        runs = answer
        answer = []
        for b in range(128 // half):
            start = 2 * half * b
            power = POWERS[128 // half + b]
            first = runs[start:start + half]
            second = [power * c for c in runs[start + half:start + 2 * half]]
            answer.extend([(a + c) % PRIME for a, c in zip(first, second)])
            answer.extend([(a - c) % PRIME for a, c in zip(first, second)])
    return answer


def back(numbers):
    """What a transformed polynomial was before."""
    answer = numbers
    for half in (2, 4, 8, 16, 32, 64, 128):
        runs = answer
        answer = []
        for b in range(128 // half):
            start = 2 * half * b
            power = POWERS[256 // half - 1 - b]
            first = runs[start:start + half]
            second = runs[start + half:start + 2 * half]
            answer.extend([(a + c) % PRIME for a, c in zip(first, second)])
            answer.extend([power * (c - a) % PRIME for a, c in zip(first, second)])
    # Each of the seven rounds has doubled the numbers, and 128 times 3303 is 1.
    return [3303 * number % PRIME for number in answer]


def product(first, second):
    """The product of two transformed polynomials, transformed."""
    answer = []
    for i in range(128):
        a0 = first[2 * i]
        a1 = first[2 * i + 1]
        b0 = second[2 * i]
        b1 = second[2 * i + 1]
        # 17 to twice the bits and 1: the power of the bits by itself, once more 17.
        square = POWERS[i] * POWERS[i] * 17
        answer.append((a0 * b0 + a1 * b1 * square) % PRIME)
        answer.append((a0 * b1 + a1 * b0) % PRIME)
    return answer


def dot(firsts, seconds):
    """The sum of the products of two lists of transformed polynomials."""
    total = [0] * 256
    for first, second in zip(firsts, seconds):
        total = added(total, product(first, second))
    return total


def regrouped(parts, size, new_size):
    """The bits of numbers of one size, the lowest first, as numbers of another size."""
    answer = []
    held = 0
    count = 0
    for part in parts:
        held = held | (part << count)
        count = count + size
        while count >= new_size:
            answer.append(held & ((1 << new_size) - 1))
            held = held >> new_size
            count = count - new_size
    return answer


def in_bits(polynomials, size):
    """The bytes of polynomials whose numbers take size bits each."""
    answer = []
    for numbers in polynomials:
        answer.extend(regrouped(numbers, size, 8))
    return answer


def read(data, size):
    """The polynomials that bytes hold, whose numbers take size bits each."""
    # With less than 12 bits every number is below 3329 as it stands.
    numbers = [number % PRIME for number in regrouped(data, 8, size)]
    return [numbers[start:start + 256] for start in range(0, len(numbers), 256)]


def squeezed(polynomials, size):
    """The bytes of polynomials squeezed to size bits."""
    scale = 1 << size
    answer = []
    for numbers in polynomials:
        answer.append([(2 * scale * number + PRIME) // (2 * PRIME) % scale for number in numbers])
    return in_bits(answer, size)


def widened(data, size):
    """The polynomials that bytes hold, widened from size bits."""
    scale = 1 << size
    answer = []
    for numbers in read(data, size):
        answer.append([(2 * PRIME * number + scale) // (2 * scale) for number in numbers])
    return answer


def fitting(data):
    """The numbers below 3329 among those that every three bytes make."""
    answer = []
    for start in range(0, len(data), 3):
        middle = data[start + 1]
        low = data[start] + 256 * (middle % 16)
        high = middle // 16 + 16 * data[start + 2]
        answer.extend([number for number in (low, high) if number < PRIME])
    return answer


def uniform(seed):
    """The uniform polynomial of 34 bytes."""
    # A short sum is the beginning of a longer one. Its numbers nearly always suffice, in a sixth of the time.
    numbers = fitting(sum_by(2, seed, 504))
    if len(numbers) < 256:
        numbers = fitting(sum_by(2, seed, 3024))
    return (numbers + [0] * 256)[:256]


def row_of(rho, kind, i):
    """The uniform polynomials A(i, 0), A(i, 1) and so on."""
    return [uniform(rho + [j, i]) for j in range(kind)]


def column_of(rho, kind, i):
    """The uniform polynomials A(0, i), A(1, i) and so on."""
    return [uniform(rho + [i, j]) for j in range(kind)]


def small(e, data):
    """The small polynomial of 64e bytes."""
    bits = regrouped(data, 8, 1)
    sums = [sum(bits[start:start + e]) for start in range(0, 512 * e, e)]
    return [(a - b) % PRIME for a, b in zip(sums[0::2], sums[1::2])]


def noise(e, seed, n):
    """The small polynomial that is number n of a seed."""
    return small(e, sum_by(3, seed + [n], 64 * e))


def transformed_noises(kind, seed, first):
    """As many polynomials of noise as the kind has, from number first on, transformed."""
    return [transformed(noise(NOISE_SIZES[kind], seed, first + i)) for i in range(kind)]


def sealed(kind, openkey, m, seed):
    """The bytes of a message, sealed with a seed by an open key."""
    shown = read(openkey[:384 * kind], 12)
    rho = openkey[384 * kind:]
    hidden = transformed_noises(kind, seed, 0)
    firsts = []
    for i in range(kind):
        plain = back(dot(column_of(rho, kind, i), hidden))
        firsts.append(added(plain, noise(2, seed, kind + i)))
    last = added(back(dot(shown, hidden)), noise(2, seed, 2 * kind))
    last = added(last, widened(m, 1)[0])
    return squeezed(firsts, U_SIZES[kind]) + squeezed([last], V_SIZES[kind])


def unsealed(kind, own, seal):
    """The bytes of the message in a seal, by the bytes of a secret key's own polynomials."""
    size = 32 * U_SIZES[kind] * kind
    firsts = [transformed(numbers) for numbers in widened(seal[:size], U_SIZES[kind])]
    last = widened(seal[size:], V_SIZES[kind])[0]
    taken = back(dot(read(own, 12), firsts))
    return squeezed([[(a - b) % PRIME for a, b in zip(last, taken)]], 1)


def km_sum(which, length, m):
    """Promise 1: 0 and the bytes of the sum of m, or -1 alone."""
    if which < 0 or which > 3:
        return [-1]
    if length < 0 or length > MOST_BYTES or len(m) > MOST_BYTES:
        return [-1]
    wanted = FIXED_LENGTHS[which] if which < 2 else length
    return [0] + sum_by(which, m, wanted)


def km_keys(kind, d, z):
    """Promise 2: 0, the bytes of the open key and those of the secret one, or -1 alone."""
    if kind not in KINDS:
        return [-1]
    both = g_of(d + [kind])
    rho = both[:32]
    seed = both[32:]
    own = transformed_noises(kind, seed, 0)
    errors = transformed_noises(kind, seed, kind)
    shown = [added(dot(row_of(rho, kind, i), own), errors[i]) for i in range(kind)]
    openkey = in_bits(shown, 12) + rho
    secret = in_bits(own, 12) + openkey + h_of(openkey) + z
    return [0] + openkey + secret


def km_seal(kind, openkey, m):
    """Promise 3: 0, the bytes of the seal and those of the key that's sealed, or -1 or -2 alone."""
    if kind not in KINDS:
        return [-1]
    shown = openkey[:384 * kind]
    if in_bits(read(shown, 12), 12) != shown:
        return [-2]
    both = g_of(m + h_of(openkey))
    return [0] + sealed(kind, openkey, m, both[32:]) + both[:32]


def km_open(kind, secret, seal):
    """Promise 4: 0 and the bytes of the key that a seal holds, or -1 or -2 alone."""
    if kind not in KINDS:
        return [-1]
    own = secret[:384 * kind]
    openkey = secret[384 * kind:768 * kind + 32]
    sum_there = secret[768 * kind + 32:768 * kind + 64]
    z = secret[768 * kind + 64:]
    if h_of(openkey) != sum_there:
        return [-2]
    m = unsealed(kind, own, seal)
    both = g_of(m + sum_there)
    if sealed(kind, openkey, m, both[32:]) == seal:
        return [0] + both[:32]
    # A seal that wasn't made this way gets a key too, so that the answer doesn't tell what was wrong with it.
    return [0] + sum_by(3, z + seal, 32)
