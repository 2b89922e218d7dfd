import unittest

from fourletters.strands import least, words
from strand_cases import (
    ABOVE_THE_MOST, EXTRAS, FULL, REFUSED, packed_text, some_text, with_bits_past, words_otherwise,
)


def least_of(text, k, m):
    return least(len(text), k, m, packed_text(text))


def least_otherwise(text, k, m):
    """What least answers, by way of sorting every row of numbers with their places."""
    numbers = words_otherwise(text, k)[1:]
    count = len(numbers)
    told = set()
    for start in range(count):
        row = [(numbers[i], i) for i in range(start, start + m) if i < count]
        if len(row) == m or (start == 0 and count < m):
            told.add(sorted(row)[0][1])
    return [len(told)] + sorted(told)


class ToldPlaces(unittest.TestCase):
    def test_rows_as_written(self):
        # The words of one letter of this strand are 1 0 1 1 0 0 1.
        text = "CAGCTAG"
        self.assertEqual(words(7, 1, packed_text(text)), [7, 1, 0, 1, 1, 0, 0, 1])
        self.assertEqual(least_of(text, 1, 1), [7, 0, 1, 2, 3, 4, 5, 6])
        self.assertEqual(least_of(text, 1, 2), [4, 1, 2, 4, 5])
        self.assertEqual(least_of(text, 1, 3), [2, 1, 4])
        self.assertEqual(least_of(text, 1, 4), [2, 1, 4])
        self.assertEqual(least_of(text, 1, 7), [1, 1])

    def test_words_of_three_letters(self):
        # The words are 13 3 48 44 4.
        self.assertEqual(least_of("GATTACA", 3, 1), [5, 0, 1, 2, 3, 4])
        self.assertEqual(least_of("GATTACA", 3, 2), [3, 1, 3, 4])
        self.assertEqual(least_of("GATTACA", 3, 3), [2, 1, 4])
        self.assertEqual(least_of("GATTACA", 3, 4), [1, 1])

    def test_of_equal_numbers_the_first(self):
        self.assertEqual(least_of("AAAA", 1, 4), [1, 0])
        self.assertEqual(least_of("AAAA", 1, 2), [3, 0, 1, 2])
        self.assertEqual(least_of("ATTA", 1, 3), [2, 0, 1])
        self.assertEqual(least_of("GCGTGCA", 1, 7), [1, 3])
        # A word and, later on, its opposite have the same number.
        self.assertEqual(least_of("AAACCCGTTTGG", 3, 10), [1, 0])
        self.assertEqual(least_of("CTTTCCCAAAG", 3, 9), [1, 1])

    def test_a_place_is_told_once(self):
        self.assertEqual(least_of("C" * 9 + "A" + "C" * 9, 1, 10), [1, 9])
        self.assertEqual(least_of("C" * 9 + "A" + "C" * 9, 1, 9), [3, 0, 9, 10])

    def test_fewer_places_than_m(self):
        for text, place in [("C", 0), ("CA", 1), ("CCA", 2), ("ACC", 0), ("CAC", 1)]:
            for m in [len(text), len(text) + 1, 255, 256]:
                self.assertEqual(least_of(text, 1, m), [1, place])

    def test_places_about_m(self):
        for m in [1, 2, 255, 256]:
            for k in [1, 2, 31]:
                for places in [m - 1, m, m + 1, m + 2]:
                    text = some_text(places + k - 1, m + k)
                    self.assertEqual(least_of(text, k, m), least_otherwise(text, k, m))

    def test_one_row_and_two(self):
        self.assertEqual(least_of("C" * 255 + "A", 1, 256), [1, 255])
        self.assertEqual(least_of("C" * 256 + "A", 1, 256), [2, 0, 256])
        self.assertEqual(least_of("A" + "C" * 255, 1, 256), [1, 0])
        self.assertEqual(least_of("A" + "C" * 256, 1, 256), [2, 0, 1])

    def test_no_place(self):
        for m in [1, 2, 255, 256]:
            self.assertEqual(least(0, 1, m, []), [0])
            self.assertEqual(least(0, 31, m, []), [0])
            self.assertEqual(least(1, 2, m, [FULL]), [0])
            self.assertEqual(least(30, 31, m, [FULL]), [0])

    def test_all_strands_of_up_to_six_letters(self):
        for count in range(7):
            for number in range(4 ** count):
                text = "".join("ACGT"[(number >> (2 * i)) & 3] for i in range(count))
                for k, m in [(1, 2), (1, 3), (2, 2), (3, 2)]:
                    self.assertEqual(least_of(text, k, m), least_otherwise(text, k, m))

    def test_against_a_second_way(self):
        for count in [1, 2, 31, 32, 33, 64, 65, 100]:
            for seed in range(3):
                text = some_text(count, seed)
                for k in [1, 2, 3, 30, 31]:
                    for m in [1, 2, 3, 10, 64, 255, 256]:
                        self.assertEqual(least_of(text, k, m), least_otherwise(text, k, m))

    def test_many_letters(self):
        for text in [some_text(800), some_text(800, 9), "ACGTTGCA" * 100, "A" * 800]:
            for k in [1, 2, 31]:
                for m in [1, 2, 30, 255, 256]:
                    answer = least_of(text, k, m)
                    self.assertEqual(answer, least_otherwise(text, k, m))
                    self.assertEqual(answer[1:], sorted(set(answer[1:])))

    def test_the_most_letters(self):
        text = some_text(4096)
        self.assertEqual(least_of(text, 31, 10), least_otherwise(text, 31, 10))

    def test_as_many_as_told_first(self):
        for count in range(70):
            for m in [1, 2, 5, 256]:
                answer = least_of(some_text(count, count), 3, m)
                self.assertEqual(len(answer), 1 + answer[0])

    def test_bits_past_the_letters_may_be_anything(self):
        for count in [1, 2, 31, 33, 63, 65, 100]:
            text = some_text(count, count)
            for extra in EXTRAS:
                strand = with_bits_past(count, packed_text(text), extra)
                for k in [1, 2, 31]:
                    for m in [1, 3, 256]:
                        self.assertEqual(least(count, k, m, strand), least_otherwise(text, k, m))


class Refused(unittest.TestCase):
    def test_k_that_is_not_told(self):
        for count in [0, 1, 31, 32, 40, 800, 4096]:
            for k in [0, 32, 33, 64, 4096, 4294967295]:
                for m in [1, 2, 256]:
                    self.assertEqual(least_of(some_text(count), k, m), REFUSED)

    def test_m_that_is_not_told(self):
        for count in [0, 1, 31, 32, 40, 800, 4096]:
            for m in [0, 257, 258, 512, 4096, 4294967295]:
                for k in [0, 1, 2, 31, 32]:
                    self.assertEqual(least_of(some_text(count), k, m), REFUSED)

    def test_n_above_the_most(self):
        for n in ABOVE_THE_MOST:
            for count in [0, 1, 128, 129, 200]:
                for k, m in [(1, 1), (31, 256), (0, 1), (1, 0), (32, 257)]:
                    self.assertEqual(least(n, k, m, [FULL] * count), REFUSED)


if __name__ == "__main__":
    unittest.main()
