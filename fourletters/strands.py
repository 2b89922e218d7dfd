"""Strands of the letters A, C, G and T, packed two bits a letter."""

REFUSAL = -2
MOST_LETTERS = 4096
LETTERS_A_NUMBER = 32
MOST_IN_A_WORD = 31
MOST_IN_A_ROW = 256
MOST_BESIDE = 1024
MOST_IN_A_LINE = 64

# A letter's code is its place here: A 0, C 1, G 2, T 3.
LETTERS = (65, 67, 71, 84)
CODES = {65: 0, 67: 1, 71: 2, 84: 3}

# By their numbers as three letters: ATG, and TAA, TAG, TGA.
GENE_START = 14
GENE_ENDS = (48, 50, 56)

# The steps of a line: M takes a letter of both strands, D one of the first, I one of the second.
STEP_M = 77
STEP_D = 68
STEP_I = 73
STEPS = (77, 68, 73)


def pack(s):
    """Answer 0 and the letters s packed, or the refusal alone."""
    if not is_strand(s, MOST_LETTERS):
        return [REFUSAL]
    return [0] + packed([CODES[letter] for letter in s])


def unpack(n, strand):
    """Answer 0 and the n letters of a packed strand, or the refusal alone."""
    # Above the limit the strand may be too short for n, so it is not looked at.
    if n > MOST_LETTERS:
        return [REFUSAL]
    return [0] + [LETTERS[code] for code in codes_of(n, strand)]


def turn(n, strand):
    """Answer 0 and the opposite of a packed strand, packed too, or the refusal alone."""
    if n > MOST_LETTERS:
        return [REFUSAL]
    return [0] + packed(opposite(codes_of(n, strand)))


def words(n, k, strand):
    """Answer how many words of k letters there are, then the number of each, or the refusal alone."""
    if n > MOST_LETTERS or k < 1 or k > MOST_IN_A_WORD:
        return [REFUSAL]
    numbers = word_numbers(codes_of(n, strand), k)
    return [len(numbers)] + numbers


def least(n, k, m, strand):
    """Answer how many places have the least word of m in a row, then these places, or the refusal alone."""
    if n > MOST_LETTERS or k < 1 or k > MOST_IN_A_WORD or m < 1 or m > MOST_IN_A_ROW:
        return [REFUSAL]
    places = least_places(word_numbers(codes_of(n, strand), k), m)
    return [len(places)] + places


def protein(n, from_letter, strand, table):
    """Answer how many threes there are from a letter on, then the table's byte for each, or the refusal alone."""
    if n > MOST_LETTERS or from_letter > n:
        return [REFUSAL]
    codes = codes_of(n, strand)
    told = [table[three_at(codes, i)] for i in range(from_letter, n - 2, 3)]
    return [len(told)] + told


def gene(n, strand):
    """Answer the threes, the side and the place of the longest gene, 0 alone if there is none, or the refusal alone."""
    if n > MOST_LETTERS:
        return [REFUSAL]
    codes = codes_of(n, strand)
    told = [0]
    for side, codes_there in enumerate([codes, opposite(codes)]):
        for place, threes in enumerate(gene_lengths(codes_there)):
            # The lesser side and place come first, so they stay where another gene has only as many.
            if threes > told[0]:
                told = [threes, side, place]
    return told


def apart(a, b):
    """Answer how many changes lie between a and b at the least, or the refusal alone."""
    if not is_strand(a, MOST_BESIDE) or not is_strand(b, MOST_BESIDE):
        return [REFUSAL]
    return [fewest_changes(a, b)]


def local(scores, a, b):
    """Answer 0, what two parts of a and b earn at most, and their places i, j, k, l, or the refusal alone."""
    if not are_scores(scores) or not is_strand(a, MOST_BESIDE) or not is_strand(b, MOST_BESIDE):
        return [REFUSAL]
    return [0] + best_parts(scores, a, b)


def line(scores, a, b):
    """Answer how many steps the first of the best lines has, what it earns, and the steps, or the refusal alone."""
    if not are_scores(scores) or not is_strand(a, MOST_IN_A_LINE) or not is_strand(b, MOST_IN_A_LINE):
        return [REFUSAL]
    rest = most_of_rest(scores, a, b)
    steps = first_best_steps(scores, a, b, rest)
    return [len(steps), rest[(0, 0, STEP_M)]] + steps


def is_strand(s, most):
    """Tell whether s has no more bytes than that, and each is one of the four letters."""
    if len(s) > most:
        return False
    for letter in s:
        if letter not in CODES:
            return False
    return True


def are_scores(scores):
    """Tell whether an M of like letters earns 0 to 100, and each of the other three scores is -1000 to 0."""
    if scores[0] < 0 or scores[0] > 100:
        return False
    for score in scores[1:]:
        if score < -1000 or score > 0:
            return False
    return True


def packed(codes):
    """Give the numbers that hold these codes, with 0 past the last one."""
    numbers = [0] * ((len(codes) + LETTERS_A_NUMBER - 1) // LETTERS_A_NUMBER)
    for i, code in enumerate(codes):
        place = i // LETTERS_A_NUMBER
        numbers[place] = numbers[place] | (code << (2 * (i % LETTERS_A_NUMBER)))
    return numbers


def codes_of(n, strand):
    """Give the codes of the first n letters of a packed strand."""
    codes = []
    for i in range(n):
        number = strand[i // LETTERS_A_NUMBER]
        # What lies past the n letters may be anything: only the two bits count.
        codes.append((number >> (2 * (i % LETTERS_A_NUMBER))) & 3)
    return codes


def opposite(codes):
    """Give the codes of the opposite strand."""
    # A stands against T and C against G: the two codes always make up 3.
    return [3 - code for code in reversed(codes)]


def word_numbers(codes, k):
    """Give for each place the word of k letters there or its opposite, whichever is less, as a number."""
    numbers = []
    word = 0
    against = 0
    for i, code in enumerate(codes):
        word = ((word << 2) | code) & ((1 << (2 * k)) - 1)
        # The last letter of a word stands against the first of its opposite, which weighs most.
        against = (against >> 2) | ((3 - code) << (2 * (k - 1)))
        if i >= k - 1:
            numbers.append(min(word, against))
    return numbers


def least_places(numbers, m):
    """Give the place of the least of every m numbers in a row, the first of such, each place once, rising."""
    if len(numbers) == 0:
        return []
    places = []
    # Fewer than m numbers still make one row.
    for start in range(max(1, len(numbers) - m + 1)):
        row = numbers[start:start + m]
        place = start + row.index(min(row))
        # From row to row the place stays or goes on, never back, so it can only be the last one again.
        if len(places) == 0 or places[-1] != place:
            places.append(place)
    return places


def three_at(codes, i):
    """Give the number of the three letters from place i on."""
    return 16 * codes[i] + 4 * codes[i + 1] + codes[i + 2]


def gene_lengths(codes):
    """Give for each place the threes of the gene that begins there, or 0 if none does."""
    # How many threes there are from a place up to the first that ends a gene, both counted; 0 if none does.
    reach = [0] * (len(codes) + 1)
    for i in range(len(codes) - 3, -1, -1):
        if three_at(codes, i) in GENE_ENDS:
            reach[i] = 1
        elif reach[i + 3] > 0:
            reach[i] = reach[i + 3] + 1
    return [reach[i] if three_at(codes, i) == GENE_START else 0 for i in range(len(codes) - 2)]


def fewest_changes(a, b):
    """Give the least number of D, of I and of M whose letters differ, of all lines of a and b."""
    # A row holds the numbers for what is taken of a so far beside each beginning of b.
    row = list(range(len(b) + 1))
    for i, letter in enumerate(a):
        after = [i + 1]
        for j, other in enumerate(b):
            change = 0 if letter == other else 1
            after.append(min(row[j] + change, row[j + 1] + 1, after[j] + 1))
        row = after
    return row[len(b)]


def letter_score(scores, letter, other):
    """Give what an M of these letters earns."""
    return scores[0] if letter == other else scores[1]


def gap_score(scores, step, last):
    """Give what a D or I earns: as a further one behind a step of its own kind, else as a first one."""
    return scores[3] if step == last else scores[2]


def most_of_rest(scores, a, b):
    """Give what the rest of a line earns at most, by how many letters of a and of b are taken, and the last step."""
    rest = {}
    for i in range(len(a), -1, -1):
        for j in range(len(b), -1, -1):
            for last in STEPS:
                ways = ways_on(scores, a, b, rest, (i, j, last))
                rest[(i, j, last)] = max([earned for ahead, earned in ways], default=0)
    return rest


def ways_on(scores, a, b, rest, place):
    """Give the places one step ahead, M before D before I, each with what the rest of the line earns by that way."""
    i = place[0]
    j = place[1]
    ways = []
    if i < len(a) and j < len(b):
        ahead = (i + 1, j + 1, STEP_M)
        ways.append((ahead, letter_score(scores, a[i], b[j]) + rest[ahead]))
    if i < len(a):
        ahead = (i + 1, j, STEP_D)
        ways.append((ahead, gap_score(scores, STEP_D, place[2]) + rest[ahead]))
    if j < len(b):
        ahead = (i, j + 1, STEP_I)
        ways.append((ahead, gap_score(scores, STEP_I, place[2]) + rest[ahead]))
    return ways


def first_best_steps(scores, a, b, rest):
    """Give the steps of the first line of those that earn most."""
    steps = []
    # A D or I that opens a line is a first one, as it is behind an M.
    place = (0, 0, STEP_M)
    while place[0] < len(a) or place[1] < len(b):
        best = [ahead for ahead, earned in ways_on(scores, a, b, rest, place) if earned == rest[place]]
        place = best[0]
        steps.append(place[2])
    return steps


def best_parts(scores, a, b):
    """Give what two parts of a and b earn at most, and the places i, j, k, l of the parts that are told."""
    told = [0, 0, 0, 0, 0]
    row = []
    for j in range(len(a) + 1):
        row = next_row(scores, a, b, j, row)
        for l, starts in enumerate(row):
            best = max(starts.values())
            # The least j and of such the least l come first, so they stay where others earn only as much.
            if best[0] > told[0]:
                told = [best[0], best[1], j, best[2], l]
    return told


def next_row(scores, a, b, j, row):
    """Give for each end l of b, beside the end j of a, the best start by the last step: what is earned, i and k.

    Of starts that earn as much the greatest i, then the greatest k is best: that is how the tuples compare.
    """
    after = []
    for l in range(len(b) + 1):
        # Empty parts have no last step: what follows them is as it is behind an M.
        starts = {STEP_M: (0, j, l)}
        if j > 0 and l > 0:
            earned = letter_score(scores, a[j - 1], b[l - 1])
            starts[STEP_M] = max(starts[STEP_M], earning(max(row[l - 1].values()), earned))
        if j > 0:
            starts[STEP_D] = best_with_gap(scores, STEP_D, row[l])
        if l > 0:
            starts[STEP_I] = best_with_gap(scores, STEP_I, after[l - 1])
        after.append(starts)
    return after


def best_with_gap(scores, step, starts):
    """Give the best start for a line that goes on with such a D or I."""
    return max([earning(start, gap_score(scores, step, last)) for last, start in starts.items()])


def earning(start, earned):
    """Give the same start with so much more earned."""
    return (start[0] + earned, start[1], start[2])
