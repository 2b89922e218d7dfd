"""What the tests of the calls share: strands, scores, and plain second ways to reckon with them."""

import functools

BYTES = {"A": 65, "C": 67, "G": 71, "T": 84}
FULL = 2 ** 64 - 1
# No letter, one, and the edges of the first two numbers; then the most.
LENGTHS = [0, 1, 2, 3, 31, 32, 33, 63, 64, 65, 100, 800, 4095, 4096]
REFUSED = [-2]
ABOVE_THE_MOST = [4097, 4098, 4128, 4200, 6400, 65536, 2 ** 31, 2 ** 32 - 4096, 4294967295]
EXTRAS = [FULL, 2 ** 63, 0x5555555555555555, 0x123456789ABCDEF0]


def letters(text):
    return [BYTES[sign] for sign in text]


def some_letters(count, seed=1):
    """Letters without a short period, the same at every run."""
    state = seed
    told = []
    for _ in range(count):
        state = (state * 6364136223846793005 + 1442695040888963407) % 2 ** 64
        told.append(b"ACGT"[state >> 62])
    return told


def some_text(count, seed=1):
    return bytes(some_letters(count, seed)).decode()


def packed_text(text):
    return packed_otherwise(letters(text))


def opposite_text(text):
    """The opposite strand, by way of swapping signs."""
    return text[::-1].translate(str.maketrans("ACGT", "TGCA"))


def packed_otherwise(given):
    """The packed strand, by way of one long number that is cut every 64 bits."""
    whole = 0
    for letter in reversed(given):
        whole = whole * 4 + b"ACGT".index(letter)
    numbers = []
    for _ in range(-(-len(given) // 32)):
        numbers.append(whole % 2 ** 64)
        whole //= 2 ** 64
    return numbers


def with_bits_past(count, numbers, extra):
    """The same strand, with the bits of extra where no letter stands."""
    told = list(numbers)
    if count % 32 != 0:
        first_free = 2 * (count % 32)
        told[-1] |= (extra >> first_free) << first_free
    return told


def words_otherwise(text, k):
    """What words answers, word by word: both sides are read as numbers to the base four."""
    to_digits = str.maketrans("ACGT", "0123")
    told = []
    for i in range(len(text) - k + 1):
        sides = [text[i:i + k], opposite_text(text[i:i + k])]
        told.append(min(int(side.translate(to_digits), 4) for side in sides))
    return [len(told)] + told


@functools.lru_cache(maxsize=None)
def all_lines(of_a, of_b):
    """Every line of strands of so many letters, the first first: M before D before I."""
    if of_a == 0 and of_b == 0:
        return [""]
    told = []
    for step, less_a, less_b in [("M", 1, 1), ("D", 1, 0), ("I", 0, 1)]:
        if less_a <= of_a and less_b <= of_b:
            told += [step + rest for rest in all_lines(of_a - less_a, of_b - less_b)]
    return told


def walk(line, a, b):
    """The steps of a line, each with whether an M's letters are alike."""
    told = []
    i = j = 0
    for step in line:
        told.append((step, step == "M" and a[i] == b[j]))
        i += step in "MD"
        j += step in "MI"
    return told


def earned_by(scores, line, a, b):
    """What a line earns, step by step."""
    earned = 0
    last = ""
    for step, alike in walk(line, a, b):
        if step == "M":
            earned += scores[0] if alike else scores[1]
        else:
            earned += scores[3] if step == last else scores[2]
        last = step
    return earned


# Scores that are told: everyday ones, zeros in every place, edges, and a first gap that is dearer or cheaper.
SCORES = [
    [1, -1, -2, -1], [5, -4, -10, -1], [2, -3, -5, -2], [1, -1, -1, -1], [1, 0, 0, 0], [0, 0, 0, 0], [0, -1, -1, -1],
    [1, 0, -1, -1], [1, -1, 0, -1], [1, -1, -1, 0], [2, -1, 0, 0], [3, -2, -1, -4], [3, -5, 0, -4], [3, -5, -4, 0],
    [2, 0, -1, 0], [2, 0, 0, -1], [0, 0, -1, 0], [0, 0, 0, -1], [0, -1, 0, 0], [100, -1000, -1000, -1000],
    [100, 0, 0, 0], [100, -1000, 0, 0], [0, -1000, -1000, 0], [0, -1000, 0, -1000], [100, -50, -50, -25],
]
# One below and one above what each of the four scores may be, and what may be handed in at the least and the most.
SCORES_REFUSED = [
    [-1, -1, -1, -1], [101, -1, -1, -1], [-2000, -1, -1, -1], [30000, -1, -1, -1],
    [1, -1001, -1, -1], [1, 1, -1, -1], [1, -2000, -1, -1], [1, 30000, -1, -1],
    [1, -1, -1001, -1], [1, -1, 1, -1], [1, -1, -2000, -1], [1, -1, 30000, -1],
    [1, -1, -1, -1001], [1, -1, -1, 1], [1, -1, -1, -2000], [1, -1, -1, 30000],
    [-1, 0, 0, 0], [0, 1, 0, 0], [0, 0, 1, 0], [0, 0, 0, 1], [101, 1, 1, 1], [-2000] * 4, [30000] * 4,
]
