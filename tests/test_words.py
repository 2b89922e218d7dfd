import unittest

from fourletters.strands import words
from strand_cases import (
    ABOVE_THE_MOST, EXTRAS, FULL, REFUSED, packed_text, some_text, with_bits_past, words_otherwise,
)


def words_of(text, k):
    return words(len(text), k, packed_text(text))


class ToldWords(unittest.TestCase):
    def test_words_of_one_letter(self):
        self.assertEqual(words_of("ACGT", 1), [4, 0, 1, 1, 0])

    def test_the_first_letter_weighs_most(self):
        self.assertEqual(words_of("AC", 2), [1, 0 * 4 + 1])
        self.assertEqual(words_of("CA", 2), [1, 1 * 4 + 0])
        self.assertEqual(words_of("AACG", 4), [1, 1 * 4 + 2])
        self.assertEqual(words_of("CAAA", 4), [1, 64])

    def test_words_that_are_less_than_their_opposite(self):
        self.assertEqual(words_of("AAA", 3), [1, 0])
        self.assertEqual(words_of("ACT", 3), [1, 0 * 16 + 1 * 4 + 3])
        self.assertEqual(words_of("A" * 31, 31), [1, 0])

    def test_words_whose_opposite_is_less(self):
        self.assertEqual(words_of("TTT", 3), [1, 0])
        # AGT is the opposite of ACT, and ATG that of CAT.
        self.assertEqual(words_of("AGT", 3), [1, 7])
        self.assertEqual(words_of("CAT", 3), [1, 0 * 16 + 3 * 4 + 2])
        self.assertEqual(words_of("T" * 31, 31), [1, 0])
        self.assertEqual(words_of("T" * 30 + "G", 31), [1, 2 ** 60])

    def test_words_that_are_their_own_opposite(self):
        self.assertEqual(words_of("AT", 2), [1, 3])
        self.assertEqual(words_of("GC", 2), [1, 9])
        self.assertEqual(words_of("GAATTC", 6), [1, 2 * 1024 + 15 * 4 + 1])
        self.assertEqual(words_of("CG" * 15, 30), words_otherwise("CG" * 15, 30))

    def test_the_greatest_word(self):
        # Of odd length the middle letter decides: no word is its own opposite.
        text = "T" * 15 + "C" + "A" * 15
        self.assertEqual(words_of(text, 31), [1, int("3" * 15 + "1" + "0" * 15, 4)])

    def test_a_row_of_places(self):
        # GAT or ATC, ATT or AAT, TTA or TAA, TAC or GTA, ACA or TGT
        self.assertEqual(words_of("GATTACA", 3), [5, 13, 3, 48, 44, 4])

    def test_all_words_of_up_to_five_letters(self):
        for count in range(1, 6):
            for number in range(4 ** count):
                text = "".join("ACGT"[(number >> (2 * i)) & 3] for i in range(count))
                for k in range(1, count + 2):
                    self.assertEqual(words_of(text, k), words_otherwise(text, k))

    def test_every_k_against_a_second_way(self):
        for k in range(1, 32):
            for count in [k, k + 1, 31, 32, 33, 64, 65, 100]:
                text = some_text(count, count + k)
                self.assertEqual(words_of(text, k), words_otherwise(text, k))

    def test_many_letters_against_a_second_way(self):
        for count in [799, 800]:
            text = some_text(count, 7)
            for k in [1, 2, 15, 16, 30, 31]:
                answer = words_of(text, k)
                self.assertEqual(answer, words_otherwise(text, k))
                self.assertEqual(answer[0], count - k + 1)

    def test_the_most_letters(self):
        text = some_text(4096)
        self.assertEqual(words_of(text, 31), words_otherwise(text, 31))

    def test_no_place_where_n_is_below_k(self):
        self.assertEqual(words(0, 1, []), [0])
        self.assertEqual(words(0, 31, []), [0])
        for k in range(2, 32):
            self.assertEqual(words_of(some_text(k - 1), k), [0])
            self.assertEqual(words_of("A", k), [0])

    def test_as_many_places_as_told_first(self):
        for k in [1, 2, 30, 31]:
            for count in range(100):
                answer = words_of(some_text(count, count + 1), k)
                self.assertEqual(answer[0], max(0, count - k + 1))
                self.assertEqual(len(answer), 1 + answer[0])

    def test_bits_past_the_letters_may_be_anything(self):
        self.assertEqual(words(1, 1, [FULL]), [1, 0])
        self.assertEqual(words(1, 1, [FULL - 1]), [1, 1])
        self.assertEqual(words(1, 2, [FULL]), [0])
        for count in [1, 2, 30, 31, 33, 63, 65, 100, 799]:
            text = some_text(count, count)
            for extra in EXTRAS:
                strand = with_bits_past(count, packed_text(text), extra)
                for k in [1, 2, 30, 31]:
                    self.assertEqual(words(count, k, strand), words_otherwise(text, k))


class Refused(unittest.TestCase):
    def test_k_that_is_not_told(self):
        for count in [0, 1, 31, 32, 33, 40, 800, 4096]:
            for k in [0, 32, 33, 64, 800, 4096, 2 ** 31, 4294967295]:
                self.assertEqual(words_of(some_text(count), k), REFUSED)

    def test_n_above_the_most(self):
        for n in ABOVE_THE_MOST:
            for count in [0, 1, 128, 129, 200]:
                for k in [0, 1, 2, 31, 32, 4294967295]:
                    self.assertEqual(words(n, k, [FULL] * count), REFUSED)


if __name__ == "__main__":
    unittest.main()
