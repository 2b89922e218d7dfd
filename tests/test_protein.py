import unittest

from fourletters.strands import protein
from strand_cases import ABOVE_THE_MOST, EXTRAS, FULL, REFUSED, packed_text, some_text, with_bits_past

PLACES = list(range(64))
BACKWARDS = list(range(255, 191, -1))
# The letters by which the threes are read in nature, TAA, TAG and TGA as a star.
NATURE = list(b"KNKNTTTTRSRSIIMIQHQHPPPPRRRRLLLLEDEDAAAAGGGGVVVV*Y*YSSSS*CWCLFLF")


def protein_of(text, from_letter, table):
    return protein(len(text), from_letter, packed_text(text), table)


def protein_otherwise(text, from_letter, table):
    """What protein answers, by way of cutting the text into threes."""
    rest = text[from_letter:]
    threes = [rest[i:i + 3] for i in range(0, len(rest), 3)]
    told = [table[int(three.translate(str.maketrans("ACGT", "0123")), 4)] for three in threes if len(three) == 3]
    return [len(told)] + told


class ToldBytes(unittest.TestCase):
    def test_each_three_has_its_byte(self):
        for x, first in enumerate("ACGT"):
            for y, second in enumerate("ACGT"):
                for z, third in enumerate("ACGT"):
                    number = 16 * x + 4 * y + z
                    for table in [PLACES, BACKWARDS]:
                        self.assertEqual(protein_of(first + second + third, 0, table), [1, table[number]])

    def test_the_first_letter_weighs_most(self):
        self.assertEqual(protein_of("CAA", 0, PLACES), [1, 16])
        self.assertEqual(protein_of("AAC", 0, PLACES), [1, 1])
        self.assertEqual(protein_of("ACGTTT", 0, PLACES), [2, 6, 63])

    def test_a_strand_as_it_is_read_in_nature(self):
        text = "ATGGCCATTGTAATGGGCCGCTGA"
        self.assertEqual(protein_of(text, 0, NATURE), [8] + list(b"MAIVMGR*"))
        self.assertEqual(protein_of(text, 1, NATURE), [7] + list(b"WPL*WAA"))
        self.assertEqual(protein_of(text, 2, NATURE), [7] + list(b"GHCNGPL"))

    def test_any_byte(self):
        self.assertEqual(protein_of("AAATTT", 0, [0] + [7] * 62 + [255]), [2, 0, 255])
        self.assertEqual(protein_of("AAATTT", 0, [255] + [7] * 62 + [0]), [2, 255, 0])
        self.assertEqual(protein_of("ACGTAC", 0, [0] * 64), [2, 0, 0])

    def test_the_last_letters(self):
        for count in range(3, 12):
            text = some_text(count, count)
            self.assertEqual(protein_of(text, count - 3, PLACES), protein_otherwise(text, count - 3, PLACES))
            self.assertEqual(protein_of(text, count - 3, PLACES)[0], 1)
            for from_letter in [count - 2, count - 1, count]:
                self.assertEqual(protein_of(text, from_letter, PLACES), [0])

    def test_fewer_than_three_letters(self):
        self.assertEqual(protein(0, 0, [], PLACES), [0])
        self.assertEqual(protein(1, 0, [FULL], PLACES), [0])
        self.assertEqual(protein(2, 0, [FULL], PLACES), [0])
        self.assertEqual(protein(2, 2, [FULL], PLACES), [0])

    def test_every_start_against_a_second_way(self):
        for count in list(range(10)) + [31, 32, 33, 64, 65, 100]:
            text = some_text(count, count + 1)
            for from_letter in range(count + 1):
                for table in [PLACES, BACKWARDS, NATURE]:
                    answer = protein_of(text, from_letter, table)
                    self.assertEqual(answer, protein_otherwise(text, from_letter, table))
                    self.assertEqual(answer[0], (count - from_letter) // 3)
                    self.assertEqual(len(answer), 1 + answer[0])

    def test_many_letters(self):
        for count in [800, 4095, 4096]:
            text = some_text(count)
            for from_letter in [0, 1, 2, 3, count - 4, count - 3, count - 2, count - 1, count]:
                told = protein_otherwise(text, from_letter, BACKWARDS)
                self.assertEqual(protein_of(text, from_letter, BACKWARDS), told)

    def test_bits_past_the_letters_may_be_anything(self):
        for count in [1, 2, 3, 4, 5, 31, 33, 63, 65, 100]:
            text = some_text(count, count)
            for extra in EXTRAS:
                strand = with_bits_past(count, packed_text(text), extra)
                for from_letter in range(min(count, 4)):
                    told = protein_otherwise(text, from_letter, PLACES)
                    self.assertEqual(protein(count, from_letter, strand, PLACES), told)


class Refused(unittest.TestCase):
    def test_from_above_n(self):
        for count in [0, 1, 2, 3, 32, 33, 800, 4095, 4096]:
            for from_letter in [count + 1, count + 2, count + 3, 2 ** 31, 4294967295]:
                self.assertEqual(protein_of(some_text(count), from_letter, PLACES), REFUSED)

    def test_n_above_the_most(self):
        for n in ABOVE_THE_MOST:
            for count in [0, 1, 128, 129, 200]:
                for from_letter in [0, 1, 4095, 4096, 4097, n - 1, n, 4294967295]:
                    self.assertEqual(protein(n, from_letter, [FULL] * count, PLACES), REFUSED)


if __name__ == "__main__":
    unittest.main()
