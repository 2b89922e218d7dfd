import unittest

from fourletters.strands import gene
from strand_cases import ABOVE_THE_MOST, EXTRAS, FULL, REFUSED, opposite_text, packed_text, some_text, with_bits_past


def gene_of(text):
    return gene(len(text), packed_text(text))


def gene_otherwise(text):
    """What gene answers, by way of gathering every gene and sorting them."""
    genes = []
    for side, there in enumerate([text, opposite_text(text)]):
        for place in range(len(there)):
            threes = [there[i:i + 3] for i in range(place, len(there) - 2, 3)]
            ends = [count for count, three in enumerate(threes, start=1) if three in ("TAA", "TAG", "TGA")]
            if threes[:1] == ["ATG"] and ends:
                genes.append((-ends[0], side, place))
    if not genes:
        return [0]
    threes, side, place = sorted(genes)[0]
    return [-threes, side, place]


class NoGene(unittest.TestCase):
    def test_too_few_letters(self):
        self.assertEqual(gene(0, []), [0])
        for count in range(6):
            self.assertEqual(gene_of("ATGTAA"[:count]), [0])
            self.assertEqual(gene_of("ATGTAA"[1:][:count]), [0])

    def test_a_beginning_without_an_end(self):
        for text in ["ATG", "ATGATG", "ATGCCC", "ATGCCCCCC", "ATGTA", "ATGCCCTA", "ATGTAC", "ATGTGG", "ATGTGT"]:
            self.assertEqual(gene_of(text), [0])

    def test_an_end_without_a_beginning(self):
        for text in ["TAA", "TAGTAG", "CCCTGA", "ACGTAA", "AAGTAA", "CTGTAG", "GTGTGA", "TAAATG"]:
            self.assertEqual(gene_of(text), [0])

    def test_an_end_that_is_not_a_whole_number_of_threes_behind(self):
        for end in ["TAA", "TAG", "TGA"]:
            for between in ["C", "CC", "CCCC", "CCCCC"]:
                self.assertEqual(gene_of("ATG" + between + end), [0])

    def test_letters_of_the_beginning_are_not_the_end(self):
        # TGA begins within ATGA, a letter behind the beginning.
        self.assertEqual(gene_of("ATGA"), [0])
        self.assertEqual(gene_of("ATGATAGC"), [0])

    def test_strands_of_one_letter(self):
        for letter in "ACGT":
            self.assertEqual(gene_of(letter * 800), [0])


class TheGene(unittest.TestCase):
    def test_the_shortest(self):
        for end in ["TAA", "TAG", "TGA"]:
            self.assertEqual(gene_of("ATG" + end), [2, 0, 0])
            self.assertEqual(gene_of("ATGCCC" + end), [3, 0, 0])

    def test_no_other_three_ends_it(self):
        for first in "ACGT":
            for second in "ACGT":
                for third in "ACGT":
                    three = first + second + third
                    told = [2, 0, 0] if three in ("TAA", "TAG", "TGA") else [3, 0, 0]
                    self.assertEqual(gene_of("ATG" + three + "TAA"), told)

    def test_no_other_three_begins_it(self):
        for first in "ACGT":
            for second in "ACGT":
                for third in "ACGT":
                    three = first + second + third
                    told = [2, 0, 0] if three == "ATG" else [0]
                    self.assertEqual(gene_of(three + "TAG"), told)

    def test_its_place(self):
        for ahead in range(8):
            for behind in range(5):
                self.assertEqual(gene_of("C" * ahead + "ATGCCCTAG" + "C" * behind), [3, 0, ahead])

    def test_the_first_end_counts(self):
        self.assertEqual(gene_of("ATGCCCTAACCCCCCTAG"), [3, 0, 0])
        self.assertEqual(gene_of("ATGTGATAATAG"), [2, 0, 0])
        # The ends that don't stand a whole number of threes behind don't count.
        self.assertEqual(gene_of("ATGCTAACTGACTAG"), [5, 0, 0])

    def test_a_beginning_within_the_gene(self):
        self.assertEqual(gene_of("ATGATGCCCTAA"), [4, 0, 0])
        self.assertEqual(gene_of("CATGATGATGTAA"), [4, 0, 1])

    def test_a_beginning_behind_an_end(self):
        self.assertEqual(gene_of("ATGTAAATGCCCTAA"), [3, 0, 6])

    def test_in_the_opposite(self):
        self.assertEqual(gene_of("TTACAT"), [2, 1, 0])
        self.assertEqual(gene_of("CTAGGGCAT"), [3, 1, 0])
        # The place is one in the opposite: from the strand's end.
        self.assertEqual(gene_of("CCCCCTCACATCC"), [2, 1, 2])
        self.assertEqual(gene_of("CTCACATCCCCC"), [2, 1, 5])

    def test_the_gene_of_the_most_threes(self):
        self.assertEqual(gene_of("ATGTAACCATGCCCTAA"), [3, 0, 8])
        self.assertEqual(gene_of("ATGCCCTAACCATGTAA"), [3, 0, 0])
        self.assertEqual(gene_of("ATGTAACC" + opposite_text("ATGCCCTAA")), [3, 1, 0])
        self.assertEqual(gene_of("ATGCCCTAACC" + opposite_text("ATGTAA")), [3, 0, 0])

    def test_as_many_threes_on_both_sides(self):
        self.assertEqual(gene_of(opposite_text("ATGCCCTAA") + "CC" + "ATGGGGTAG"), [3, 0, 11])
        self.assertEqual(gene_of("CC" + "ATGCCCTAA" + opposite_text("ATGGGGTAG")), [3, 0, 2])
        self.assertEqual(gene_of("CTACATGTAG"), [2, 0, 4])

    def test_as_many_threes_twice_on_one_side(self):
        self.assertEqual(gene_of("CATGCCCTAACATGCCCTAA"), [3, 0, 1])
        self.assertEqual(gene_of(opposite_text("GATGCCCTAAGATGAAATGA")), [3, 1, 1])
        # Two genes that run through one another, a letter apart.
        self.assertEqual(gene_of("ATGCATGCCTAACTAG"), [4, 0, 0])
        self.assertEqual(gene_of("TTGCATGCCTAACTAG"), [4, 0, 4])

    def test_all_strands_of_seven_letters_about_the_shortest_gene(self):
        for number in range(4 ** 4):
            rest = "".join("ACGT"[(number >> (2 * i)) & 3] for i in range(4))
            for text in ["ATG" + rest, rest + "TAA", rest[:2] + "ATGTGA" + rest[2:], "CTA" + rest, rest + "CAT"]:
                self.assertEqual(gene_of(text), gene_otherwise(text))

    def test_against_a_second_way(self):
        for count in list(range(100)) + [128, 200, 400]:
            for seed in range(5):
                text = some_text(count, seed)
                self.assertEqual(gene_of(text), gene_otherwise(text))

    def test_many_letters(self):
        for seed in range(20):
            text = some_text(800, seed)
            self.assertEqual(gene_of(text), gene_otherwise(text))
        self.assertEqual(gene_of("ATG" * 265 + "CC" + "TAG"), [0])
        self.assertEqual(gene_of("CC" + "ATG" * 265 + "TAG"), [266, 0, 2])
        self.assertEqual(gene_of(opposite_text("CC" + "ATG" * 265 + "TAG")), [266, 1, 2])

    def test_the_most_letters(self):
        self.assertEqual(gene_of("C" + "ATG" * 1364 + "TAG"), [1365, 0, 1])
        self.assertEqual(gene_of("CC" + "C" * 4088 + "TTACAT"), [2, 1, 0])

    def test_bits_past_the_letters_may_be_anything(self):
        self.assertEqual(gene(5, packed_text("ATGTAA")), [0])
        self.assertEqual(gene(6, with_bits_past(6, packed_text("ATGTAA"), FULL)), [2, 0, 0])
        for count in list(range(1, 34)) + [63, 65, 100, 799]:
            text = some_text(count, count)
            for extra in EXTRAS:
                self.assertEqual(gene(count, with_bits_past(count, packed_text(text), extra)), gene_otherwise(text))


class Refused(unittest.TestCase):
    def test_n_above_the_most(self):
        for n in ABOVE_THE_MOST:
            for count in [0, 1, 128, 129, 200]:
                for number in [0, packed_text("ATGTAA")[0], FULL]:
                    self.assertEqual(gene(n, [number] * count), REFUSED)


if __name__ == "__main__":
    unittest.main()
