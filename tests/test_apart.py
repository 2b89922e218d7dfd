import itertools
import unittest

from fourletters.strands import apart
from strand_cases import REFUSED, all_lines, letters, some_letters, walk


def apart_by_all_lines(a, b):
    """What apart answers, by way of walking every line."""
    return [min(sum(not alike for _, alike in walk(line, a, b)) for line in all_lines(len(a), len(b)))]


def apart_by_reach(a, b):
    """What apart answers: with one change after another, how far does each slanting row of like letters reach?"""
    reached = {(0, 0)}
    changes = 0
    while True:
        furthest = {}
        for i, j in reached:
            while i < len(a) and j < len(b) and a[i] == b[j]:
                i, j = i + 1, j + 1
            furthest[i - j] = max(furthest.get(i - j, (0, 0)), (i, j))
        if furthest.get(len(a) - len(b)) == (len(a), len(b)):
            return [changes]
        ahead = [(i + x, j + y) for i, j in furthest.values() for x, y in [(1, 1), (1, 0), (0, 1)]]
        reached = {(i, j) for i, j in ahead if i <= len(a) and j <= len(b)}
        changes += 1


class Changes(unittest.TestCase):
    def test_empty_strands(self):
        self.assertEqual(apart([], []), [0])
        for count in [1, 2, 32, 400, 1024]:
            self.assertEqual(apart(some_letters(count), []), [count])
            self.assertEqual(apart([], some_letters(count)), [count])

    def test_equal_strands(self):
        for count in [1, 2, 7, 32, 400]:
            given = some_letters(count)
            self.assertEqual(apart(given, list(given)), [0])
            self.assertEqual(apart(given, given), [0])

    def test_one_letter_that_differs(self):
        for first, second in itertools.product("ACGT", repeat=2):
            self.assertEqual(apart(letters(first), letters(second)), [int(first != second)])
        self.assertEqual(apart(letters("GATTACA"), letters("CATTACA")), [1])
        self.assertEqual(apart(letters("GATTACA"), letters("GATGACA")), [1])
        self.assertEqual(apart(letters("GATTACA"), letters("GATTACG")), [1])

    def test_one_letter_more_or_less(self):
        for more in ["CGATTACA", "GATCTACA", "GATTACAC", "GGATTACA", "GATTTACA"]:
            self.assertEqual(apart(letters("GATTACA"), letters(more)), [1])
            self.assertEqual(apart(letters(more), letters("GATTACA")), [1])

    def test_as_written(self):
        self.assertEqual(apart(letters("AC"), letters("CA")), [2])
        self.assertEqual(apart(letters("ACG"), letters("CGA")), [2])
        self.assertEqual(apart(letters("GATTACA"), letters("ATTAGCA")), [2])
        self.assertEqual(apart(letters("AAAA"), letters("TTTT")), [4])
        self.assertEqual(apart(letters("ACGTACGT"), letters("CGTACGTA")), [2])
        self.assertEqual(apart(letters("AAAAA"), letters("AA")), [3])

    def test_all_small_strands_against_all_lines(self):
        small = [list(given) for count in range(5) for given in itertools.product(b"AC", repeat=count)]
        for a in small:
            for b in small:
                self.assertEqual(apart(a, b), apart_by_all_lines(a, b))

    def test_strands_of_four_letters_against_all_lines(self):
        for of_a in range(7):
            for of_b in range(7):
                a = some_letters(of_a, of_b + 1)
                b = some_letters(of_b, of_a + 10)
                self.assertEqual(apart(a, b), apart_by_all_lines(a, b))

    def test_both_slow_reckonings_agree(self):
        for seed in range(30):
            a = some_letters(seed % 6, seed + 1)
            b = some_letters(seed % 5, seed + 2)
            self.assertEqual(apart_by_reach(a, b), apart_by_all_lines(a, b))

    def test_longer_strands_against_a_second_way(self):
        for of_a, of_b in [(10, 10), (31, 33), (64, 60), (100, 1), (1, 100), (90, 120), (120, 90)]:
            for seed in range(4):
                a = some_letters(of_a, seed)
                b = some_letters(of_b, seed + 50)
                self.assertEqual(apart(a, b), apart_by_reach(a, b))

    def test_strands_that_are_almost_alike(self):
        a = some_letters(200)
        b = a[:20] + a[25:60] + letters("ACGT") + a[60:150] + letters("TTT") + a[153:]
        self.assertEqual(apart(a, b), apart_by_reach(a, b))
        self.assertEqual(apart(b, a), apart_by_reach(a, b))

    def test_strands_of_400_letters(self):
        a = some_letters(400)
        self.assertEqual(apart(a, some_letters(400, 5)), apart_by_reach(a, some_letters(400, 5)))
        self.assertEqual(apart(letters("A" * 400), letters("T" * 400)), [400])
        self.assertEqual(apart(letters("ACGT" * 100), letters("CGTA" * 100)), [2])
        self.assertEqual(apart(letters("A" * 400), letters("AT" * 200)), [200])

    def test_the_most_letters(self):
        a = some_letters(1024)
        self.assertEqual(apart(a, a[1:] + [65]), apart_by_reach(a, a[1:] + [65]))
        self.assertEqual(apart(a, letters("C")), [1023])


class Refused(unittest.TestCase):
    def test_more_letters_than_told(self):
        for count in [1025, 1026, 1099, 1100]:
            for other in [0, 1, 8, 400, 1024, 1025, 1100]:
                self.assertEqual(apart(some_letters(count), some_letters(other)), REFUSED)
                self.assertEqual(apart(some_letters(other), some_letters(count)), REFUSED)

    def test_more_letters_and_a_wrong_one(self):
        self.assertEqual(apart([0] * 1100, [0]), REFUSED)
        self.assertEqual(apart([], [0] * 1100), REFUSED)

    def test_every_byte_that_is_none_of_the_four(self):
        for byte in range(256):
            told = REFUSED if byte not in (65, 67, 71, 84) else [int(byte != 65)]
            self.assertEqual(apart([byte], [65]), told)
            self.assertEqual(apart([65], [byte]), told)
            if told == REFUSED:
                self.assertEqual(apart([byte], [byte]), REFUSED)
                self.assertEqual(apart([byte], []), REFUSED)
                self.assertEqual(apart([], [byte]), REFUSED)

    def test_a_wrong_byte_at_each_kind_of_place(self):
        for count in [1, 2, 5, 400, 1024]:
            for place in {0, count // 2, count - 1}:
                for byte in [0, 1, 66, 97, 255]:
                    given = some_letters(count)
                    given[place] = byte
                    for other in [[], [65], some_letters(count), given]:
                        self.assertEqual(apart(given, other), REFUSED)
                        self.assertEqual(apart(other, given), REFUSED)


if __name__ == "__main__":
    unittest.main()
