"""What the tests of the calls share: strands, and a second way to pack them."""

BYTES = {"A": 65, "C": 67, "G": 71, "T": 84}
FULL = 2 ** 64 - 1
# No letter, one, and the edges of the first two numbers; then the most.
LENGTHS = [0, 1, 2, 3, 31, 32, 33, 63, 64, 65, 100, 800, 4095, 4096]
REFUSED = [-2]


def letters(text):
    return [BYTES[sign] for sign in text]


def some_letters(count, seed=1):
    """Letters without a short period, the same at every run."""
    state = seed
    told = []
    for _ in range(count):
        state = (state * 6364136223846793005 + 1442695040888963407) % 2 ** 64
        told.append(b"ACGT"[state >> 62])
    return told


def packed_otherwise(given):
    """The packed strand, by way of one long number that is cut every 64 bits."""
    whole = 0
    for letter in reversed(given):
        whole = whole * 4 + b"ACGT".index(letter)
    numbers = []
    for _ in range(-(-len(given) // 32)):
        numbers.append(whole % 2 ** 64)
        whole //= 2 ** 64
    return numbers
