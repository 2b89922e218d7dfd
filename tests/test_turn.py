import unittest

from fourletters.strands import turn, unpack
from strand_cases import (
    ABOVE_THE_MOST, EXTRAS, FULL, LENGTHS, REFUSED, letters, opposite_text, packed_text, some_text, with_bits_past,
)


class Turned(unittest.TestCase):
    def test_one_letter_each(self):
        for letter, against in zip("ACGT", "TGCA"):
            self.assertEqual(turn(1, packed_text(letter)), [0] + packed_text(against))

    def test_backwards(self):
        self.assertEqual(turn(2, packed_text("AC")), [0] + packed_text("GT"))
        self.assertEqual(turn(3, packed_text("AAC")), [0] + packed_text("GTT"))
        self.assertEqual(turn(7, packed_text("GATTACA")), [0] + packed_text("TGTAATC"))

    def test_numbers_as_written(self):
        self.assertEqual(turn(3, [0]), [0, 63])
        self.assertEqual(turn(4, [228]), [0, 228])
        self.assertEqual(turn(5, [228]), [0, 3 + 4 * 228])

    def test_strands_that_are_their_own_opposite(self):
        for text in ["AT", "CG", "GAATTC", "AT" * 16, "ACGT" * 16]:
            self.assertEqual(turn(len(text), packed_text(text)), [0] + packed_text(text))

    def test_no_letter(self):
        self.assertEqual(turn(0, []), [0])

    def test_edges_of_a_number(self):
        self.assertEqual(turn(31, [0]), [0, 2 ** 62 - 1])
        self.assertEqual(turn(32, [0]), [0, FULL])
        self.assertEqual(turn(32, [FULL]), [0, 0])
        self.assertEqual(turn(33, [FULL, 2]), [0, 1, 0])
        self.assertEqual(turn(33, [0, 3]), [0, FULL - 3, 3])
        self.assertEqual(turn(64, [0, FULL]), [0, 0, FULL])
        self.assertEqual(turn(65, [0, FULL, 1]), [0, 2, FULL - 3, 3])

    def test_the_most_letters(self):
        self.assertEqual(turn(4096, [0] * 128), [0] + [FULL] * 128)
        self.assertEqual(turn(4096, [1] + [0] * 127), [0] + [FULL] * 127 + [2 ** 63 + 2 ** 62 - 1])

    def test_letter_by_letter(self):
        text = some_text(100)
        told = unpack(100, turn(100, packed_text(text))[1:])[1:]
        for i in range(100):
            self.assertIn(bytes([told[i], letters(text)[100 - 1 - i]]), [b"AT", b"TA", b"CG", b"GC"])

    def test_all_lengths_against_a_second_way(self):
        for count in LENGTHS + list(range(98)):
            text = some_text(count, count + 3)
            self.assertEqual(turn(count, packed_text(text)), [0] + packed_text(opposite_text(text)))

    def test_bits_past_the_letters_may_be_anything_and_are_told_as_0(self):
        self.assertEqual(turn(1, [FULL]), [0, 0])
        self.assertEqual(turn(1, [FULL - 3]), [0, 3])
        for count in LENGTHS + list(range(98)):
            text = some_text(count, count + 4)
            for extra in EXTRAS:
                strand = with_bits_past(count, packed_text(text), extra)
                answer = turn(count, strand)
                self.assertEqual(answer, [0] + packed_text(opposite_text(text)))
                if count % 32 != 0:
                    self.assertEqual(answer[-1] >> (2 * (count % 32)), 0)

    def test_turned_twice(self):
        for count in LENGTHS + list(range(98)):
            for extra in [0, FULL]:
                strand = packed_text(some_text(count, 6))
                once = turn(count, with_bits_past(count, strand, extra))
                self.assertEqual(turn(count, once[1:]), [0] + strand)


class Refused(unittest.TestCase):
    def test_n_above_the_most(self):
        for n in ABOVE_THE_MOST:
            for count in [0, 1, 128, 129, 200]:
                for number in [0, 1, FULL]:
                    self.assertEqual(turn(n, [number] * count), REFUSED)


if __name__ == "__main__":
    unittest.main()
