import functools
import itertools
import unittest

from fourletters.strands import local
from strand_cases import REFUSED, SCORES, SCORES_REFUSED, all_lines, earned_by, letters, some_letters

EVERYDAY = [1, -1, -2, -1]


def local_of(scores, a, b):
    return local(scores, letters(a), letters(b))


def most_by_all_lines(scores, a, b):
    """The most that a line of two parts earns, by way of walking every line."""
    return max(earned_by(scores, steps, a, b) for steps in all_lines(len(a), len(b)))


@functools.lru_cache(maxsize=None)
def most_by_last_step(scores, a, b):
    """The most that a line of two parts earns, by way of all that its last step can be."""
    return max(ending(scores, a, b, step) for step in "MDI") if a or b else 0


@functools.lru_cache(maxsize=None)
def ending(scores, a, b, step):
    """The most that a line earns whose last step is that, or far too little if there is none."""
    if step == "M":
        return most_by_last_step(scores, a[:-1], b[:-1]) + scores[a[-1] != b[-1]] if a and b else -10 ** 9
    rest = (a[:-1], b) if step == "D" else (a, b[:-1])
    if not (a if step == "D" else b):
        return -10 ** 9
    if not rest[0] and not rest[1]:
        return scores[2]
    return max(ending(scores, *rest, last) + scores[2 + (last == step)] for last in "MDI")


def local_by_all_parts(scores, a, b, most=most_by_last_step):
    """What local answers, by way of going through all parts, sorted as the document tells."""
    told = []
    for i, j in itertools.combinations_with_replacement(range(len(a) + 1), 2):
        for k, l in itertools.combinations_with_replacement(range(len(b) + 1), 2):
            earned = most(tuple(scores), bytes(a[i:j]), bytes(b[k:l]))
            told.append((-earned, j, l, -i, -k))
    lost, j, l, i, k = min(told)
    return [0, -lost, -i, j, -k, l]


class BestParts(unittest.TestCase):
    def test_empty_strands(self):
        for scores in SCORES:
            self.assertEqual(local(scores, [], []), [0, 0, 0, 0, 0, 0])
            self.assertEqual(local(scores, letters("ACGT"), []), [0, 0, 0, 0, 0, 0])
            self.assertEqual(local(scores, [], letters("ACGT")), [0, 0, 0, 0, 0, 0])

    def test_no_like_letters(self):
        for scores in SCORES:
            self.assertEqual(local_of(scores, "ACAC", "GTTGT"), [0, 0, 0, 0, 0, 0])
            self.assertEqual(local_of(scores, "A", "C"), [0, 0, 0, 0, 0, 0])

    def test_like_letters_that_earn_nothing(self):
        for scores in [[0, 0, 0, 0], [0, -1, -1, -1], [0, -1000, 0, 0]]:
            self.assertEqual(local_of(scores, "ACGT", "ACGT"), [0, 0, 0, 0, 0, 0])

    def test_as_written(self):
        self.assertEqual(local_of(EVERYDAY, "A", "A"), [0, 1, 0, 1, 0, 1])
        self.assertEqual(local_of(EVERYDAY, "GATTACA", "GATTACA"), [0, 7, 0, 7, 0, 7])
        self.assertEqual(local_of(EVERYDAY, "GATTACA", "CCATTACC"), [0, 5, 1, 6, 2, 7])
        self.assertEqual(local_of(EVERYDAY, "TTTACG", "ACGCC"), [0, 3, 3, 6, 0, 3])
        self.assertEqual(local_of(EVERYDAY, "ACGCC", "TTTACG"), [0, 3, 0, 3, 3, 6])

    def test_across_what_differs(self):
        # ACG and CGT are like, with a letter that differs, one more or one less between.
        self.assertEqual(local_of([2, -1, -1, -1], "ACGACGT", "ACGTCGT"), [0, 11, 0, 7, 0, 7])
        self.assertEqual(local_of([2, -9, -1, -1], "ACGACGT", "ACGCGT"), [0, 11, 0, 7, 0, 6])
        self.assertEqual(local_of([2, -9, -1, -1], "ACGCGT", "ACGACGT"), [0, 11, 0, 6, 0, 7])
        # Where it costs more than the other part earns, the first of the two parts stands alone.
        self.assertEqual(local_of([2, -9, -9, -9], "ACGACGT", "ACGCGT"), [0, 6, 0, 3, 0, 3])

    def test_a_first_gap_and_further_ones(self):
        self.assertEqual(local_of([5, -100, -6, -1], "AACCTTGG", "AAGG"), [0, 20 - 9, 0, 8, 0, 4])
        self.assertEqual(local_of([5, -100, -6, -2], "AACCTTGG", "AAGG"), [0, 10, 0, 2, 0, 2])
        self.assertEqual(local_of([5, -100, -6, -1], "AAGG", "AACCTTGG"), [0, 20 - 9, 0, 4, 0, 8])
        # A further D or I is dearer than a first one.
        self.assertEqual(local_of([5, -100, 0, -4], "ACCG", "AG"), [0, 6, 0, 4, 0, 2])
        self.assertEqual(local_of([5, -100, 0, -4], "ACCG", "ATG"), [0, 10, 0, 4, 0, 3])

    def test_the_least_j(self):
        self.assertEqual(local_of(EVERYDAY, "ACTAC", "AC"), [0, 2, 0, 2, 0, 2])
        # Letters behind that earn nothing are left out.
        self.assertEqual(local_of([1, 0, 0, 0], "AC", "AG"), [0, 1, 0, 1, 0, 1])
        # The least j counts before the least l.
        self.assertEqual(local_of(EVERYDAY, "AC", "CTA"), [0, 1, 0, 1, 2, 3])

    def test_the_least_l(self):
        self.assertEqual(local_of(EVERYDAY, "AC", "ACTAC"), [0, 2, 0, 2, 0, 2])
        self.assertEqual(local_of([1, 0, 0, 0], "A", "AG"), [0, 1, 0, 1, 0, 1])
        # Both A's of a end at the same l; the least j comes first.
        self.assertEqual(local_of(EVERYDAY, "AGA", "TA"), [0, 1, 0, 1, 1, 2])

    def test_the_greatest_i(self):
        # What stands ahead and earns nothing is left out.
        self.assertEqual(local_of([1, 0, 0, 0], "GA", "A"), [0, 1, 1, 2, 0, 1])
        self.assertEqual(local_of([1, 0, 0, 0], "GA", "CA"), [0, 1, 1, 2, 1, 2])
        self.assertEqual(local_of([1, -1, -1, -1], "AGC", "AC"), [0, 1, 0, 1, 0, 1])
        # AG and then C, or C alone: as much is earned, and with the greatest i fewer letters are told.
        self.assertEqual(local_of([1, -1, -1, -1], "AGCC", "ACC"), [0, 2, 2, 4, 1, 3])

    def test_the_greatest_k(self):
        self.assertEqual(local_of([1, 0, 0, 0], "A", "GA"), [0, 1, 0, 1, 1, 2])
        # The A at place 1 is beside one of the two A's ahead of what is like, at no loss.
        self.assertEqual(local_of([1, -1, 0, 0], "AC", "AAC"), [0, 2, 0, 2, 1, 3])
        self.assertEqual(local_of([1, -1, 0, 0], "AC", "AGAGC"), [0, 2, 0, 2, 2, 5])

    def test_all_small_strands_by_all_lines(self):
        small = [bytes(given) for count in range(4) for given in itertools.product(b"AC", repeat=count)]
        most = functools.lru_cache(maxsize=None)(most_by_all_lines)
        for scores in SCORES:
            for a in small:
                for b in small:
                    told = local_by_all_parts(scores, a, b, most)
                    self.assertEqual(local(scores, list(a), list(b)), told)

    def test_both_slow_reckonings_agree(self):
        for seed, scores in enumerate(SCORES):
            for of_a, of_b in [(0, 3), (3, 0), (2, 2), (4, 3), (3, 5), (5, 5)]:
                a = bytes(some_letters(of_a, seed))
                b = bytes(some_letters(of_b, seed + 1))
                if a or b:
                    self.assertEqual(most_by_last_step(tuple(scores), a, b), most_by_all_lines(scores, a, b))

    def test_strands_of_up_to_eight_letters_by_all_parts(self):
        for place, scores in enumerate(SCORES):
            for of_a, of_b in [(8, 8), (8, 5), (5, 8), (7, 7), (1, 8), (8, 1), (6, 4)]:
                a = some_letters(of_a, place + of_b)
                b = some_letters(of_b, place + of_a + 20)
                self.assertEqual(local(scores, a, b), local_by_all_parts(scores, a, b))

    def test_strands_of_two_letters_by_all_parts(self):
        # With two letters there are many parts that earn as much.
        for place, scores in enumerate(SCORES):
            for seed in range(4):
                a = [b"ACAC"[b"ACGT".index(letter)] for letter in some_letters(6, seed + place)]
                b = [b"ACAC"[b"ACGT".index(letter)] for letter in some_letters(7, seed + place + 30)]
                self.assertEqual(local(scores, a, b), local_by_all_parts(scores, a, b))

    def test_the_edges_of_the_scores(self):
        for place, least, greatest in [(0, 0, 100), (1, -1000, 0), (2, -1000, 0), (3, -1000, 0)]:
            for score in [least, least + 1, greatest - 1, greatest]:
                scores = list(EVERYDAY)
                scores[place] = score
                a = letters("ACGGTTA")
                b = letters("CGATTAC")
                self.assertEqual(local(scores, a, b), local_by_all_parts(scores, a, b))

    def test_longer_strands(self):
        self.assertEqual(local(EVERYDAY, some_letters(100), some_letters(100)), [0, 100, 0, 100, 0, 100])
        self.assertEqual(local([100, -1000, -1000, -1000], letters("A" * 90), letters("C" * 20 + "A" * 60)),
                         [0, 6000, 0, 60, 20, 80])
        self.assertEqual(local(EVERYDAY, letters("A" * 1024), letters("CA")), [0, 1, 0, 1, 1, 2])
        self.assertEqual(local(EVERYDAY, letters("CA"), letters("A" * 1024)), [0, 1, 1, 2, 0, 1])


class Refused(unittest.TestCase):
    def test_more_letters_than_told(self):
        for count in [1025, 1026, 1099, 1100]:
            for other in [0, 1, 8, 64, 1024, 1025, 1100]:
                self.assertEqual(local(EVERYDAY, some_letters(count), some_letters(other)), REFUSED)
                self.assertEqual(local(EVERYDAY, some_letters(other), some_letters(count)), REFUSED)

    def test_scores_that_are_not_told(self):
        for scores in SCORES_REFUSED:
            for a, b in [("", ""), ("A", ""), ("", "A"), ("GATTACA", "GATACA")]:
                self.assertEqual(local_of(scores, a, b), REFUSED)

    def test_every_byte_that_is_none_of_the_four(self):
        for byte in range(256):
            if byte not in (65, 67, 71, 84):
                for other in [[], [65], [byte], some_letters(1025)]:
                    self.assertEqual(local(EVERYDAY, [byte], other), REFUSED)
                    self.assertEqual(local(EVERYDAY, other, [byte]), REFUSED)

    def test_a_wrong_byte_at_each_kind_of_place(self):
        for count in [1, 2, 5, 8]:
            for place in {0, count // 2, count - 1}:
                given = some_letters(count)
                given[place] = 97
                for other in [[], [65], some_letters(count), given]:
                    self.assertEqual(local(EVERYDAY, given, other), REFUSED)
                    self.assertEqual(local(EVERYDAY, other, given), REFUSED)


if __name__ == "__main__":
    unittest.main()
