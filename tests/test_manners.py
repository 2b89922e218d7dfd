"""What holds of every call alike: it changes, keeps and prints nothing, and answers whole numbers in a list."""

import ast
import contextlib
import copy
import inspect
import io
import sys
import unittest

from fourletters import strands
from strand_cases import FULL, letters, packed_otherwise, packed_text, some_letters

PARAMETERS = {
    "pack": ["s"],
    "unpack": ["n", "strand"],
    "turn": ["n", "strand"],
    "words": ["n", "k", "strand"],
    "least": ["n", "k", "m", "strand"],
    "protein": ["n", "from_letter", "strand", "table"],
    "gene": ["n", "strand"],
    "apart": ["a", "b"],
    "local": ["scores", "a", "b"],
    "line": ["scores", "a", "b"],
}

CALLS = [
    (strands.pack, ([],)),
    (strands.pack, (letters("GATTACA"),)),
    (strands.pack, (some_letters(65),)),
    (strands.pack, (some_letters(4096),)),
    (strands.pack, (some_letters(4097),)),
    (strands.pack, ([65, 97, 67],)),
    (strands.unpack, (0, [])),
    (strands.unpack, (1, [FULL])),
    (strands.unpack, (7, [2 + 16 * 3 + 64 * 3 + 1024 * 1])),
    (strands.unpack, (65, packed_otherwise(some_letters(65)))),
    (strands.unpack, (4096, packed_otherwise(some_letters(4096)))),
    (strands.unpack, (4097, [])),
    (strands.unpack, (4294967295, [FULL] * 200)),
    (strands.turn, (0, [])),
    (strands.turn, (1, [FULL])),
    (strands.turn, (7, packed_text("GATTACA"))),
    (strands.turn, (65, packed_otherwise(some_letters(65)))),
    (strands.turn, (4096, packed_otherwise(some_letters(4096)))),
    (strands.turn, (4097, [FULL] * 200)),
    (strands.words, (0, 1, [])),
    (strands.words, (7, 3, packed_text("GATTACA"))),
    (strands.words, (30, 31, [FULL])),
    (strands.words, (800, 31, packed_otherwise(some_letters(800)))),
    (strands.words, (800, 0, packed_otherwise(some_letters(800)))),
    (strands.words, (4097, 31, [FULL] * 200)),
    (strands.least, (0, 1, 1, [])),
    (strands.least, (7, 3, 2, packed_text("GATTACA"))),
    (strands.least, (30, 31, 256, [FULL])),
    (strands.least, (800, 31, 256, packed_otherwise(some_letters(800)))),
    (strands.least, (800, 31, 257, packed_otherwise(some_letters(800)))),
    (strands.least, (4097, 31, 1, [FULL] * 200)),
    (strands.protein, (0, 0, [], list(range(64)))),
    (strands.protein, (7, 1, packed_text("GATTACA"), list(range(64)))),
    (strands.protein, (7, 7, [FULL], [255] * 64)),
    (strands.protein, (7, 8, [FULL], [255] * 64)),
    (strands.protein, (4096, 2, packed_otherwise(some_letters(4096)), list(range(255, 191, -1)))),
    (strands.protein, (4097, 0, [FULL] * 200, [0] * 64)),
    (strands.gene, (0, [])),
    (strands.gene, (6, packed_text("ATGTAA"))),
    (strands.gene, (9, packed_text("TTACATCAT"))),
    (strands.gene, (800, packed_otherwise(some_letters(800)))),
    (strands.gene, (4097, [FULL] * 200)),
    (strands.apart, ([], [])),
    (strands.apart, (letters("GATTACA"), letters("ATTAGCA"))),
    (strands.apart, (some_letters(100), some_letters(90, 2))),
    (strands.apart, (some_letters(1025), [])),
    (strands.apart, ([65], [65, 97])),
    (strands.local, ([1, -1, -2, -1], [], [])),
    (strands.local, ([0, 0, 0, 0], letters("GATTACA"), letters("GATTACA"))),
    (strands.local, ([1, -1, -2, -1], letters("GATTACA"), letters("CATTAGA"))),
    (strands.local, ([1, 0, 0, 0], some_letters(40), some_letters(30, 2))),
    (strands.local, ([101, 0, 0, 0], letters("A"), letters("A"))),
    (strands.local, ([1, 0, 0, 0], some_letters(1025), [])),
    (strands.line, ([1, -1, -2, -1], [], [])),
    (strands.line, ([0, 0, 0, 0], letters("GATTACA"), letters("GATTACA"))),
    (strands.line, ([1, -1, -2, -1], letters("GATTACA"), letters("CATTAGA"))),
    (strands.line, ([1, 0, 0, 0], some_letters(64), some_letters(60, 2))),
    (strands.line, ([1, 0, 1, 0], letters("A"), letters("A"))),
    (strands.line, ([1, 0, 0, 0], some_letters(65), [])),
]

# Calls of two strands, which may be one and the same list.
CALLS_OF_TWO = [
    (strands.apart, ()),
    (strands.local, ([2, -1, -2, -1],)),
    (strands.line, ([2, -1, -2, -1],)),
]


class Untouched(list):
    """A list that fails at the first try to change it, even if it were changed back."""

    def refuse(self, *args, **kwargs):
        raise AssertionError("what was handed in was changed")

    append = clear = extend = insert = pop = remove = reverse = sort = refuse
    __setitem__ = __delitem__ = __iadd__ = __imul__ = refuse


def untouched(value):
    return Untouched(value) if isinstance(value, list) else value


def kept_values():
    """What stands at the top of the module beside its functions."""
    return {name: value for name, value in vars(strands).items() if name.isupper()}


class Manners(unittest.TestCase):
    def test_the_parameters_are_called_as_told(self):
        for name, parameters in PARAMETERS.items():
            self.assertEqual(list(inspect.signature(getattr(strands, name)).parameters), parameters)

    def test_every_call_is_among_those_tried(self):
        self.assertEqual({call.__name__ for call, _ in CALLS}, set(PARAMETERS))

    def test_what_is_handed_in_stays(self):
        for call, given in CALLS:
            kept = [untouched(value) for value in given]
            call(*kept)
            self.assertEqual(kept, list(given))

    def test_one_list_as_both_strands(self):
        for call, ahead in CALLS_OF_TWO:
            for given in [[], letters("GATTACA"), some_letters(65), [65, 97]]:
                kept = untouched(given)
                answer = call(*ahead, kept, kept)
                self.assertEqual(kept, given)
                self.assertEqual(answer, call(*ahead, list(given), list(given)))

    def test_a_second_call_answers_the_same(self):
        before = [copy.copy(call(*given)) for call, given in CALLS]
        for (call, given), told in zip(CALLS, before):
            answer = call(*given)
            self.assertEqual(answer, told)
            # Whoever has an answer may change it: the next answer is another list.
            answer.append(9)
            answer[0] = 9
            self.assertEqual(call(*given), told)

    def test_the_order_of_calls_does_not_matter(self):
        before = [call(*given) for call, given in CALLS]
        after = [call(*given) for call, given in reversed(CALLS)]
        self.assertEqual(after[::-1], before)

    def test_nothing_is_kept(self):
        before = copy.deepcopy(kept_values())
        for call, given in CALLS:
            call(*given)
        self.assertEqual(kept_values(), before)

    def test_no_calls_deep_within_one_another(self):
        limit = sys.getrecursionlimit()
        # Far fewer than the letters of the longest strands.
        sys.setrecursionlimit(len(inspect.stack()) + 20)
        try:
            for call, given in CALLS:
                call(*given)
        finally:
            sys.setrecursionlimit(limit)

    def test_nothing_is_imported_or_read(self):
        source = ast.parse(inspect.getsource(strands))
        for node in ast.walk(source):
            self.assertNotIsInstance(node, (ast.Import, ast.ImportFrom))
            self.assertNotIn(getattr(node, "id", ""), ("open", "input", "print"))

    def test_whole_numbers_in_a_list(self):
        for call, given in CALLS:
            answer = call(*given)
            self.assertIs(type(answer), list)
            for number in answer:
                self.assertIs(type(number), int)

    def test_nothing_is_printed(self):
        told = io.StringIO()
        with contextlib.redirect_stdout(told), contextlib.redirect_stderr(told):
            for call, given in CALLS:
                call(*given)
        self.assertEqual(told.getvalue(), "")


if __name__ == "__main__":
    unittest.main()
