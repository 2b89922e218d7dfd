"""Strands of the letters A, C, G and T, packed two bits a letter."""

REFUSAL = -2
MOST_LETTERS = 4096
LETTERS_A_NUMBER = 32
MOST_IN_A_WORD = 31
MOST_IN_A_ROW = 256

# A letter's code is its place here: A 0, C 1, G 2, T 3.
LETTERS = (65, 67, 71, 84)
CODES = {65: 0, 67: 1, 71: 2, 84: 3}


def pack(s):
    """Answer 0 and the letters s packed, or the refusal alone."""
    if len(s) > MOST_LETTERS or not all_are_letters(s):
        return [REFUSAL]
    return [0] + packed([CODES[letter] for letter in s])


def unpack(n, strand):
    """Answer 0 and the n letters of a packed strand, or the refusal alone."""
    # Above the limit the strand may be too short for n, so it is not looked at.
    if n > MOST_LETTERS:
        return [REFUSAL]
    return [0] + [LETTERS[code] for code in codes_of(n, strand)]


def turn(n, strand):
    """Answer 0 and the opposite of a packed strand, packed too, or the refusal alone."""
    if n > MOST_LETTERS:
        return [REFUSAL]
    return [0] + packed(opposite(codes_of(n, strand)))


def words(n, k, strand):
    """Answer how many words of k letters there are, then the number of each, or the refusal alone."""
    if n > MOST_LETTERS or k < 1 or k > MOST_IN_A_WORD:
        return [REFUSAL]
    numbers = word_numbers(codes_of(n, strand), k)
    return [len(numbers)] + numbers


def least(n, k, m, strand):
    """Answer how many places have the least word of m in a row, then these places, or the refusal alone."""
    if n > MOST_LETTERS or k < 1 or k > MOST_IN_A_WORD or m < 1 or m > MOST_IN_A_ROW:
        return [REFUSAL]
    places = least_places(word_numbers(codes_of(n, strand), k), m)
    return [len(places)] + places


def protein(n, from_letter, strand, table):
    """Answer how many threes there are from a letter on, then the table's byte for each, or the refusal alone."""
    if n > MOST_LETTERS or from_letter > n:
        return [REFUSAL]
    codes = codes_of(n, strand)
    told = [table[three_at(codes, i)] for i in range(from_letter, n - 2, 3)]
    return [len(told)] + told


def all_are_letters(s):
    """Tell whether every byte of s is one of the four letters."""
    for letter in s:
        if letter not in CODES:
            return False
    return True


def packed(codes):
    """Give the numbers that hold these codes, with 0 past the last one."""
    numbers = [0] * ((len(codes) + LETTERS_A_NUMBER - 1) // LETTERS_A_NUMBER)
    for i, code in enumerate(codes):
        place = i // LETTERS_A_NUMBER
        numbers[place] = numbers[place] | (code << (2 * (i % LETTERS_A_NUMBER)))
    return numbers


def codes_of(n, strand):
    """Give the codes of the first n letters of a packed strand."""
    codes = []
    for i in range(n):
        number = strand[i // LETTERS_A_NUMBER]
        # What lies past the n letters may be anything: only the two bits count.
        codes.append((number >> (2 * (i % LETTERS_A_NUMBER))) & 3)
    return codes


def opposite(codes):
    """Give the codes of the opposite strand."""
    # A stands against T and C against G: the two codes always make up 3.
    return [3 - code for code in reversed(codes)]


def word_numbers(codes, k):
    """Give for each place the word of k letters there or its opposite, whichever is less, as a number."""
    numbers = []
    word = 0
    against = 0
    for i, code in enumerate(codes):
        word = ((word << 2) | code) & ((1 << (2 * k)) - 1)
        # The last letter of a word stands against the first of its opposite, which weighs most.
        against = (against >> 2) | ((3 - code) << (2 * (k - 1)))
        if i >= k - 1:
            numbers.append(min(word, against))
    return numbers


def least_places(numbers, m):
    """Give the place of the least of every m numbers in a row, the first of such, each place once, rising."""
    if len(numbers) == 0:
        return []
    places = []
    # Fewer than m numbers still make one row.
    for start in range(max(1, len(numbers) - m + 1)):
        row = numbers[start:start + m]
        place = start + row.index(min(row))
        # From row to row the place stays or goes on, never back, so it can only be the last one again.
        if len(places) == 0 or places[-1] != place:
            places.append(place)
    return places


def three_at(codes, i):
    """Give the number of the three letters from place i on."""
    return 16 * codes[i] + 4 * codes[i + 1] + codes[i + 2]
