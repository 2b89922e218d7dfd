import unittest

from fourletters.strands import pack
from strand_cases import FULL, LENGTHS, REFUSED, letters, packed_otherwise, some_letters


class PackedLetters(unittest.TestCase):
    def test_one_letter_each(self):
        for code, letter in enumerate("ACGT"):
            self.assertEqual(pack(letters(letter)), [0, code])

    def test_the_first_letter_has_the_lowest_bits(self):
        self.assertEqual(pack(letters("ACGT")), [0, 0 + 4 * 1 + 16 * 2 + 64 * 3])
        self.assertEqual(pack(letters("TGCA")), [0, 3 + 4 * 2 + 16 * 1 + 64 * 0])
        self.assertEqual(pack(letters("GATTACA")), [0, 2 + 16 * 3 + 64 * 3 + 1024 * 1])

    def test_no_letter(self):
        self.assertEqual(pack([]), [0])

    def test_edges_of_a_number(self):
        self.assertEqual(pack(letters("T" * 31)), [0, 2 ** 62 - 1])
        self.assertEqual(pack(letters("T" * 32)), [0, FULL])
        self.assertEqual(pack(letters("T" * 33)), [0, FULL, 3])
        self.assertEqual(pack(letters("T" * 64)), [0, FULL, FULL])
        self.assertEqual(pack(letters("T" * 65)), [0, FULL, FULL, 3])
        self.assertEqual(pack(letters("A" * 31 + "G" + "C")), [0, 2 ** 63, 1])

    def test_strands_of_a_alone_keep_their_numbers(self):
        for count, numbers in [(1, 1), (31, 1), (32, 1), (33, 2), (64, 2), (65, 3), (4096, 128)]:
            self.assertEqual(pack(letters("A" * count)), [0] * (1 + numbers))

    def test_all_lengths_against_a_second_way(self):
        for count in LENGTHS:
            for seed in range(3):
                given = some_letters(count, seed)
                self.assertEqual(pack(given), [0] + packed_otherwise(given))

    def test_every_length_up_to_three_numbers(self):
        for count in range(98):
            given = some_letters(count, count)
            self.assertEqual(pack(given), [0] + packed_otherwise(given))

    def test_the_most_letters(self):
        self.assertEqual(pack(letters("T" * 4096)), [0] + [FULL] * 128)

    def test_bits_past_the_last_letter_are_0(self):
        for count in range(1, 98):
            answer = pack(letters("T" * count))
            self.assertEqual(len(answer), 1 + (count + 31) // 32)
            last = count - 32 * (len(answer) - 2)
            self.assertEqual(answer[-1] >> (2 * last), 0)


class Refused(unittest.TestCase):
    def test_more_letters_than_told(self):
        for count in range(4097, 4201):
            self.assertEqual(pack(letters("A" * count)), REFUSED)

    def test_more_letters_and_a_wrong_one(self):
        self.assertEqual(pack([0] + some_letters(4096)), REFUSED)
        self.assertEqual(pack([0] * 4200), REFUSED)

    def test_every_byte_that_is_none_of_the_four(self):
        for byte in range(256):
            if byte in (65, 67, 71, 84):
                self.assertEqual(pack([byte])[0], 0)
            else:
                self.assertEqual(pack([byte]), REFUSED)

    def test_small_letters(self):
        for letter in b"acgt":
            self.assertEqual(pack([65, letter]), REFUSED)

    def test_a_wrong_byte_at_each_kind_of_place(self):
        for count in [1, 2, 5, 31, 32, 33, 64, 65, 4096]:
            for place in {0, count // 2, count - 1}:
                for byte in [0, 1, 3, 64, 66, 85, 97, 255]:
                    given = some_letters(count)
                    given[place] = byte
                    self.assertEqual(pack(given), REFUSED)


if __name__ == "__main__":
    unittest.main()
