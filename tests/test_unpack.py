import unittest

from fourletters.strands import pack, unpack
from strand_cases import (
    ABOVE_THE_MOST, EXTRAS, FULL, LENGTHS, REFUSED, letters, packed_otherwise, some_letters, with_bits_past,
)


class UnpackedLetters(unittest.TestCase):
    def test_one_letter_each(self):
        for code, letter in enumerate("ACGT"):
            self.assertEqual(unpack(1, [code]), [0] + letters(letter))

    def test_the_first_letter_has_the_lowest_bits(self):
        self.assertEqual(unpack(4, [228]), [0, 65, 67, 71, 84])
        self.assertEqual(unpack(4, [27]), [0, 84, 71, 67, 65])
        self.assertEqual(unpack(7, [2 + 16 * 3 + 64 * 3 + 1024 * 1]), [0] + letters("GATTACA"))

    def test_no_letter(self):
        self.assertEqual(unpack(0, []), [0])

    def test_edges_of_a_number(self):
        self.assertEqual(unpack(31, [2 ** 62 - 1]), [0] + letters("T" * 31))
        self.assertEqual(unpack(32, [FULL]), [0] + letters("T" * 32))
        self.assertEqual(unpack(32, [2 ** 63]), [0] + letters("A" * 31 + "G"))
        self.assertEqual(unpack(33, [2 ** 63, 1]), [0] + letters("A" * 31 + "GC"))
        self.assertEqual(unpack(64, [0, FULL]), [0] + letters("A" * 32 + "T" * 32))
        self.assertEqual(unpack(65, [0, FULL, 2]), [0] + letters("A" * 32 + "T" * 32 + "G"))

    def test_the_most_letters(self):
        self.assertEqual(unpack(4096, [0] * 127 + [2 ** 63]), [0] + letters("A" * 4095 + "G"))

    def test_all_lengths_against_a_second_way(self):
        for count in LENGTHS + list(range(98)):
            given = some_letters(count, count + 1)
            self.assertEqual(unpack(count, packed_otherwise(given)), [0] + given)

    def test_bits_past_the_letters_may_be_anything(self):
        self.assertEqual(unpack(1, [FULL]), [0, 84])
        self.assertEqual(unpack(1, [FULL - 3]), [0, 65])
        for count in LENGTHS + list(range(98)):
            given = some_letters(count, count + 2)
            for extra in EXTRAS:
                strand = with_bits_past(count, packed_otherwise(given), extra)
                self.assertEqual(unpack(count, strand), [0] + given)

    def test_a_packed_strand_gives_its_letters_back(self):
        for count in LENGTHS:
            given = some_letters(count, 5)
            self.assertEqual(unpack(count, pack(given)[1:]), [0] + given)


class Refused(unittest.TestCase):
    def test_n_above_the_most(self):
        for n in ABOVE_THE_MOST:
            for count in [0, 1, 128, 129, 200]:
                for number in [0, 1, FULL]:
                    self.assertEqual(unpack(n, [number] * count), REFUSED)


if __name__ == "__main__":
    unittest.main()
