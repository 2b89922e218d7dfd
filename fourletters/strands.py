"""Strands of the letters A, C, G and T, packed two bits a letter."""

REFUSAL = -2
MOST_LETTERS = 4096
LETTERS_A_NUMBER = 32
MOST_IN_A_WORD = 31
MOST_IN_A_ROW = 256
MOST_BESIDE = 1024

# A letter's code is its place here: A 0, C 1, G 2, T 3.
LETTERS = (65, 67, 71, 84)
CODES = {65: 0, 67: 1, 71: 2, 84: 3}

# By their numbers as three letters: ATG, and TAA, TAG, TGA.
GENE_START = 14
GENE_ENDS = (48, 50, 56)


def pack(s):
    """Answer 0 and the letters s packed, or the refusal alone."""
    if not is_strand(s, MOST_LETTERS):
        return [REFUSAL]
    return [0] + packed([CODES[letter] for letter in s])


def unpack(n, strand):
    """Answer 0 and the n letters of a packed strand, or the refusal alone."""
    # Above the limit the strand may be too short for n, so it is not looked at.
    if n > MOST_LETTERS:
        return [REFUSAL]
    return [0] + [LETTERS[code] for code in codes_of(n, strand)]


def turn(n, strand):
    """Answer 0 and the opposite of a packed strand, packed too, or the refusal alone."""
    if n > MOST_LETTERS:
        return [REFUSAL]
    return [0] + packed(opposite(codes_of(n, strand)))


def words(n, k, strand):
    """Answer how many words of k letters there are, then the number of each, or the refusal alone."""
    if n > MOST_LETTERS or k < 1 or k > MOST_IN_A_WORD:
        return [REFUSAL]
    numbers = word_numbers(codes_of(n, strand), k)
    return [len(numbers)] + numbers


def least(n, k, m, strand):
    """Answer how many places have the least word of m in a row, then these places, or the refusal alone."""
    if n > MOST_LETTERS or k < 1 or k > MOST_IN_A_WORD or m < 1 or m > MOST_IN_A_ROW:
        return [REFUSAL]
    places = least_places(word_numbers(codes_of(n, strand), k), m)
    return [len(places)] + places


def protein(n, from_letter, strand, table):
    """Answer how many threes there are from a letter on, then the table's byte for each, or the refusal alone."""
    if n > MOST_LETTERS or from_letter > n:
        return [REFUSAL]
    codes = codes_of(n, strand)
    told = [table[three_at(codes, i)] for i in range(from_letter, n - 2, 3)]
    return [len(told)] + told


def gene(n, strand):
    """Answer the threes, the side and the place of the longest gene, 0 alone if there is none, or the refusal alone."""
    if n > MOST_LETTERS:
        return [REFUSAL]
    codes = codes_of(n, strand)
    told = [0]
    for side, codes_there in enumerate([codes, opposite(codes)]):
        for place, threes in enumerate(gene_lengths(codes_there)):
            # The lesser side and place come first, so they stay where another gene has only as many.
            if threes > told[0]:
                told = [threes, side, place]
    return told


def apart(a, b):
    """Answer how many changes lie between a and b at the least, or the refusal alone."""
    if not is_strand(a, MOST_BESIDE) or not is_strand(b, MOST_BESIDE):
        return [REFUSAL]
    return [fewest_changes(a, b)]


def is_strand(s, most):
    """Tell whether s has no more bytes than that, and each is one of the four letters."""
    if len(s) > most:
        return False
    for letter in s:
        if letter not in CODES:
            return False
    return True


def packed(codes):
    """Give the numbers that hold these codes, with 0 past the last one."""
    numbers = [0] * ((len(codes) + LETTERS_A_NUMBER - 1) // LETTERS_A_NUMBER)
    for i, code in enumerate(codes):
        place = i // LETTERS_A_NUMBER
        numbers[place] = numbers[place] | (code << (2 * (i % LETTERS_A_NUMBER)))
    return numbers


def codes_of(n, strand):
    """Give the codes of the first n letters of a packed strand."""
    codes = []
    for i in range(n):
        number = strand[i // LETTERS_A_NUMBER]
        # What lies past the n letters may be anything: only the two bits count.
        codes.append((number >> (2 * (i % LETTERS_A_NUMBER))) & 3)
    return codes


def opposite(codes):
    """Give the codes of the opposite strand."""
    # A stands against T and C against G: the two codes always make up 3.
    return [3 - code for code in reversed(codes)]


def word_numbers(codes, k):
    """Give for each place the word of k letters there or its opposite, whichever is less, as a number."""
    numbers = []
    word = 0
    against = 0
    for i, code in enumerate(codes):
        word = ((word << 2) | code) & ((1 << (2 * k)) - 1)
        # The last letter of a word stands against the first of its opposite, which weighs most.
        against = (against >> 2) | ((3 - code) << (2 * (k - 1)))
        if i >= k - 1:
            numbers.append(min(word, against))
    return numbers


def least_places(numbers, m):
    """Give the place of the least of every m numbers in a row, the first of such, each place once, rising."""
    if len(numbers) == 0:
        return []
    places = []
    # Fewer than m numbers still make one row.
    for start in range(max(1, len(numbers) - m + 1)):
        row = numbers[start:start + m]
        place = start + row.index(min(row))
        # From row to row the place stays or goes on, never back, so it can only be the last one again.
        if len(places) == 0 or places[-1] != place:
            places.append(place)
    return places


def three_at(codes, i):
    """Give the number of the three letters from place i on."""
    return 16 * codes[i] + 4 * codes[i + 1] + codes[i + 2]


def gene_lengths(codes):
    """Give for each place the threes of the gene that begins there, or 0 if none does."""
    # How many threes there are from a place up to the first that ends a gene, both counted; 0 if none does.
    reach = [0] * (len(codes) + 1)
    for i in range(len(codes) - 3, -1, -1):
        if three_at(codes, i) in GENE_ENDS:
            reach[i] = 1
        elif reach[i + 3] > 0:
            reach[i] = reach[i + 3] + 1
    return [reach[i] if three_at(codes, i) == GENE_START else 0 for i in range(len(codes) - 2)]


def fewest_changes(a, b):
    """Give the least number of D, of I and of M whose letters differ, of all lines of a and b."""
    # A row holds the numbers for what is taken of a so far beside each beginning of b.
    row = list(range(len(b) + 1))
    for i, letter in enumerate(a):
        after = [i + 1]
        for j, other in enumerate(b):
            change = 0 if letter == other else 1
            after.append(min(row[j] + change, row[j + 1] + 1, after[j] + 1))
        row = after
    return row[len(b)]
