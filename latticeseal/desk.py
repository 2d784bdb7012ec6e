"""The calls of the program, and the sums that they stand on."""

# The most bytes that a message or a sum may have.
MOST_BYTES = 16777216

# By which: the rate, the mark and, for 0 and 1 alone, the one length that a sum has.
RATES = (136, 72, 168, 136)
MARKS = (6, 6, 31, 31)
FIXED_LENGTHS = (32, 64)

ALL_BITS = 0xFFFFFFFFFFFFFFFF

# For the word number x + 5y: the number of the word that comes to its place, and by how much that one is
# turned. Written out, like the constants below, because every mixing needs the same ones.
MOVES = (
    (0, 0), (6, 44), (12, 43), (18, 21), (24, 14),
    (3, 28), (9, 20), (10, 3), (16, 45), (22, 61),
    (1, 1), (7, 6), (13, 25), (19, 8), (20, 18),
    (4, 27), (5, 36), (11, 10), (17, 15), (23, 56),
    (2, 62), (8, 55), (14, 39), (15, 41), (21, 2),
)

# The constant of each i from 0 to 23.
CONSTANTS = (
    0x0000000000000001, 0x0000000000008082, 0x800000000000808A, 0x8000000080008000,
    0x000000000000808B, 0x0000000080000001, 0x8000000080008081, 0x8000000000008009,
    0x000000000000008A, 0x0000000000000088, 0x0000000080008009, 0x000000008000000A,
    0x000000008000808B, 0x800000000000008B, 0x8000000000008089, 0x8000000000008003,
    0x8000000000008002, 0x8000000000000080, 0x000000000000800A, 0x800000008000000A,
    0x8000000080008081, 0x8000000000008080, 0x0000000080000001, 0x8000000080008008,
)


def turned(word, places):
    """A word turned to the left."""
    return ((word << places) | (word >> (64 - places))) & ALL_BITS


def spread(words):
    """Mixing, the first part: the columns beside each word go into it."""
    columns = [words[x] ^ words[x + 5] ^ words[x + 10] ^ words[x + 15] ^ words[x + 20] for x in range(5)]
    changes = [columns[(x + 4) % 5] ^ turned(columns[(x + 1) % 5], 1) for x in range(5)]
    return [word ^ change for word, change in zip(words, changes * 5)]


def moved(words):
    """Mixing, the second part: the words are turned and change places."""
    return [turned(words[source], places) for source, places in MOVES]


def crossed(words):
    """Mixing, the third part: the two words that follow in the row go into each word."""
    answer = []
    for start in range(0, 25, 5):
        row = words[start:start + 5]
        second = row[1:] + row[:1]
        third = row[2:] + row[:2]
        answer.extend([a ^ ((b ^ ALL_BITS) & c) for a, b, c in zip(row, second, third)])
    return answer


def mixed(words):
    """The twenty-five words mixed, as a new list."""
    state = words
    for constant in CONSTANTS:
        state = crossed(moved(spread(state)))
        state[0] = state[0] ^ constant
    return state


def filled_up(message, rate, mark):
    """A copy of the message with the mark behind it, up to the end of a block."""
    tail = [0] * (rate - len(message) % rate)
    tail[0] = mark
    # Added, because in a tail of one byte the mark stands there already.
    tail[-1] = tail[-1] + 128
    return message + tail


def word_of(eight):
    """The word that eight bytes are, the lowest first."""
    word = 0
    for byte in reversed(eight):
        word = (word << 8) | byte
    return word


def taken_in(words, block):
    """The words after one more block of the message."""
    size = len(block) // 8
    first = [words[n] ^ word_of(block[8 * n:8 * n + 8]) for n in range(size)]
    return mixed(first + words[size:])


def first_bytes(words, rate):
    """The words' first bytes, as many as the rate is."""
    answer = []
    for word in words[:rate // 8]:
        answer.extend([(word >> shift) & 255 for shift in range(0, 64, 8)])
    return answer


def sum_of(message, rate, mark, length):
    """The sum of a message by a rate and a mark: a list of length bytes."""
    whole = filled_up(message, rate, mark)
    words = [0] * 25
    for start in range(0, len(whole), rate):
        words = taken_in(words, whole[start:start + rate])
    answer = first_bytes(words, rate)
    while len(answer) < length:
        words = mixed(words)
        answer.extend(first_bytes(words, rate))
    return answer[:length]


def km_sum(which, length, m):
    """Promise 1: 0 and the bytes of the sum of m, or -1 alone."""
    if which < 0 or which > 3:
        return [-1]
    if length < 0 or length > MOST_BYTES or len(m) > MOST_BYTES:
        return [-1]
    wanted = FIXED_LENGTHS[which] if which < 2 else length
    return [0] + sum_of(m, RATES[which], MARKS[which], wanted)
