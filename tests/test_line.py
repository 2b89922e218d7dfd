import functools
import itertools
import unittest

from fourletters.strands import line
from strand_cases import REFUSED, SCORES, SCORES_REFUSED, all_lines, earned_by, letters, some_letters

EVERYDAY = [1, -1, -2, -1]


def answer_of(earned, steps):
    return [len(steps), earned] + list(steps.encode())


def line_of(scores, a, b):
    return line(scores, letters(a), letters(b))


def line_by_all_lines(scores, a, b):
    """What line answers, by way of walking every line."""
    lines = all_lines(len(a), len(b))
    earned = [earned_by(scores, steps, a, b) for steps in lines]
    # The lines are in order, so that the first of the best is the one that is asked for.
    return answer_of(max(earned), lines[earned.index(max(earned))])


def line_by_comparing(scores, a, b):
    """What line answers, by way of comparing whole rests of lines, with 0, 1 and 2 for M, D and I."""
    @functools.lru_cache(maxsize=None)
    def best(i, j, last):
        rests = []
        if i < len(a) and j < len(b):
            rests.append(("0", scores[a[i] != b[j]], best(i + 1, j + 1, "0")))
        if i < len(a):
            rests.append(("1", scores[2 + (last == "1")], best(i + 1, j, "1")))
        if j < len(b):
            rests.append(("2", scores[2 + (last == "2")], best(i, j + 1, "2")))
        return min([(lost - earned, step + steps) for step, earned, (lost, steps) in rests], default=(0, ""))

    lost, steps = best(0, 0, "")
    return answer_of(-lost, steps.translate(str.maketrans("012", "MDI")))


class BestLines(unittest.TestCase):
    def test_empty_strands(self):
        for scores in SCORES:
            self.assertEqual(line(scores, [], []), [0, 0])

    def test_one_empty_strand(self):
        self.assertEqual(line_of(EVERYDAY, "A", ""), answer_of(-2, "D"))
        self.assertEqual(line_of(EVERYDAY, "", "A"), answer_of(-2, "I"))
        self.assertEqual(line_of(EVERYDAY, "ACGT", ""), answer_of(-5, "DDDD"))
        self.assertEqual(line_of(EVERYDAY, "", "ACGT"), answer_of(-5, "IIII"))
        self.assertEqual(line_of([1, -1, -7, 0], "ACG", ""), answer_of(-7, "DDD"))
        self.assertEqual(line_of([1, -1, 0, -7], "", "ACG"), answer_of(-14, "III"))

    def test_one_letter_beside_one(self):
        for first, second in itertools.product("ACGT", repeat=2):
            told = answer_of(1, "M") if first == second else answer_of(-1, "M")
            self.assertEqual(line_of(EVERYDAY, first, second), told)
        self.assertEqual(line_of([1, -5, -2, -1], "A", "C"), answer_of(-4, "DI"))

    def test_as_written(self):
        self.assertEqual(line_of(EVERYDAY, "GATTACA", "GATTACA"), answer_of(7, "MMMMMMM"))
        self.assertEqual(line_of(EVERYDAY, "GATTACA", "GATACA"), answer_of(4, "MMMDMMM"))
        self.assertEqual(line_of(EVERYDAY, "GATACA", "GATTACA"), answer_of(4, "MMMIMMM"))
        self.assertEqual(line_of(EVERYDAY, "GATTACA", "GACA"), answer_of(0, "MMDDDMM"))
        self.assertEqual(line_of([5, -4, -10, -1], "ACGTACGT", "ACGT"), answer_of(7, "MMMMDDDD"))

    def test_each_score_at_its_place(self):
        self.assertEqual(line_of([7, -3, -100, -100], "AC", "AG"), answer_of(7 - 3, "MM"))
        self.assertEqual(line_of([7, -900, -3, -5], "AA", ""), answer_of(-3 - 5, "DD"))
        self.assertEqual(line_of([7, -900, -3, -5], "", "AA"), answer_of(-3 - 5, "II"))

    def test_m_before_d_and_i(self):
        # An M of letters that differ earns as much as D and I together.
        self.assertEqual(line_of([1, -2, -1, -1], "A", "C"), answer_of(-2, "M"))
        self.assertEqual(line_of([1, -4, -2, -1], "AC", "GT"), answer_of(-6, "DDII"))
        self.assertEqual(line_of([1, -3, -2, -1], "AC", "GT"), answer_of(-6, "MM"))
        self.assertEqual(line_of(EVERYDAY, "AA", "A"), answer_of(-1, "MD"))
        self.assertEqual(line_of(EVERYDAY, "A", "AA"), answer_of(-1, "MI"))

    def test_d_before_i(self):
        self.assertEqual(line_of([1, -9, -2, -1], "A", "C"), answer_of(-4, "DI"))
        self.assertEqual(line_of([1, -9, -1, -1], "AC", "GT"), answer_of(-4, "DDII"))
        # The letter A or the letter C is like: M of either earns as much, and D comes before I.
        self.assertEqual(line_of([1, -9, -1, -1], "AC", "CA"), answer_of(-1, "DMI"))

    def test_runs_beside_one_another(self):
        # Each run has its first: a run of D's is over where an I stands.
        self.assertEqual(line_of([0, -1000, -10, -1], "AAA", "CC"), answer_of(-12 - 11, "DDDII"))
        self.assertEqual(line_of([0, -1000, -1, -10], "AAA", "CC"), answer_of(-5, "DIDID"))
        self.assertEqual(line_of([0, -1000, -1, -10], "AA", "CCC"), answer_of(-5, "IDIDI"))
        self.assertEqual(line_of([0, -1000, 0, -1], "AAA", "C"), answer_of(-1, "DDID"))

    def test_all_scores_0(self):
        self.assertEqual(line_of([0, 0, 0, 0], "ACG", "TT"), answer_of(0, "MMD"))
        self.assertEqual(line_of([0, 0, 0, 0], "A", "TTT"), answer_of(0, "MII"))
        self.assertEqual(line_of([0, 0, 0, 0], "ACGT", "ACGT"), answer_of(0, "MMMM"))

    def test_the_edges_of_the_scores(self):
        self.assertEqual(line_of([100, -1000, -1000, -1000], "AC", "AG"), answer_of(-900, "MM"))
        self.assertEqual(line_of([0, 0, -1000, -1000], "AC", "G"), answer_of(-1000, "MD"))
        self.assertEqual(line_of([100, 0, 0, 0], "AC", "CA"), answer_of(100, "DMI"))
        for place, least, greatest in [(0, 0, 100), (1, -1000, 0), (2, -1000, 0), (3, -1000, 0)]:
            for score in [least, least + 1, greatest - 1, greatest]:
                scores = list(EVERYDAY)
                scores[place] = score
                a = letters("ACGTT")
                b = letters("CGAT")
                self.assertEqual(line(scores, a, b), line_by_all_lines(scores, a, b))

    def test_all_small_strands_against_all_lines(self):
        small = [list(given) for count in range(4) for given in itertools.product(b"AC", repeat=count)]
        for scores in SCORES:
            for a in small:
                for b in small:
                    self.assertEqual(line(scores, a, b), line_by_all_lines(scores, a, b))

    def test_ordinary_strands_against_all_lines(self):
        for of_a in range(6):
            for of_b in range(6):
                for scores in SCORES:
                    a = some_letters(of_a, of_b + 1)
                    b = some_letters(of_b, of_a + 10)
                    self.assertEqual(line(scores, a, b), line_by_all_lines(scores, a, b))

    def test_both_slow_reckonings_agree(self):
        for seed, scores in enumerate(SCORES):
            a = some_letters(seed % 6, seed + 1)
            b = some_letters(seed % 5, seed + 2)
            self.assertEqual(line_by_comparing(scores, a, b), line_by_all_lines(scores, a, b))

    def test_longer_strands_against_a_second_way(self):
        for of_a, of_b in [(10, 12), (20, 17), (33, 31), (30, 2), (1, 40)]:
            for scores in SCORES:
                a = some_letters(of_a, of_b)
                b = some_letters(of_b, of_a)
                self.assertEqual(line(scores, a, b), line_by_comparing(scores, a, b))

    def test_strands_of_64_letters(self):
        a = some_letters(64)
        others = [some_letters(64, 3), a[:30] + a[35:], some_letters(1, 3), [], a]
        for scores in [EVERYDAY, [5, -4, -10, -1], [3, -5, 0, -4], [0, 0, 0, 0], [100, -1000, -1000, -1000]]:
            for b in others:
                self.assertEqual(line(scores, a, b), line_by_comparing(scores, a, b))
                self.assertEqual(line(scores, b, a), line_by_comparing(scores, b, a))
        self.assertEqual(line_of([1, -1000, -2, -1], "A" * 64, "C" * 64), answer_of(-130, "D" * 64 + "I" * 64))

    def test_as_many_steps_as_told_first(self):
        for seed, scores in enumerate(SCORES):
            a = some_letters(20, seed)
            b = some_letters(15, seed + 1)
            answer = line(scores, a, b)
            steps = bytes(answer[2:]).decode()
            self.assertEqual(answer[0], len(steps))
            self.assertEqual(answer[1], earned_by(scores, steps, a, b))
            self.assertEqual(steps.count("M") + steps.count("D"), 20)
            self.assertEqual(steps.count("M") + steps.count("I"), 15)


class Refused(unittest.TestCase):
    def test_more_letters_than_told(self):
        for count in [65, 66, 100, 1024, 1025, 1100]:
            for other in [0, 1, 8, 64, 65, 1100]:
                self.assertEqual(line(EVERYDAY, some_letters(count), some_letters(other)), REFUSED)
                self.assertEqual(line(EVERYDAY, some_letters(other), some_letters(count)), REFUSED)

    def test_scores_that_are_not_told(self):
        for scores in SCORES_REFUSED:
            for a, b in [("", ""), ("A", ""), ("", "A"), ("GATTACA", "GATACA")]:
                self.assertEqual(line_of(scores, a, b), REFUSED)

    def test_every_byte_that_is_none_of_the_four(self):
        for byte in range(256):
            if byte not in (65, 67, 71, 84):
                for other in [[], [65], [byte], some_letters(65)]:
                    self.assertEqual(line(EVERYDAY, [byte], other), REFUSED)
                    self.assertEqual(line(EVERYDAY, other, [byte]), REFUSED)

    def test_a_wrong_byte_at_each_kind_of_place(self):
        for count in [1, 2, 5, 64]:
            for place in {0, count // 2, count - 1}:
                given = some_letters(count)
                given[place] = 97
                for other in [[], [65], some_letters(count), given]:
                    self.assertEqual(line(EVERYDAY, given, other), REFUSED)
                    self.assertEqual(line(EVERYDAY, other, given), REFUSED)


if __name__ == "__main__":
    unittest.main()
