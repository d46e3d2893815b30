"""Promise 5: words answers how many words there are and each one's length; -9 and the place where there's a fault."""

import unittest

from crossfilldesk.lattices import count, first, fits, letters, next_of, words
from tests import oracle

MOST = 4294967295
LATTICE = oracle.bytes_of("..", "..")

# What else is handed in stands here: some of it would be refused too, but later.
CALLS = {
    "words": words,
    "first": lambda w: first(100000, LATTICE, w),
    "first with no trials": lambda w: first(0, LATTICE, w),
    "first with too many trials": lambda w: first(MOST, LATTICE, w),
    "first with too few trials": lambda w: first(1, LATTICE, w),
    "next_of": lambda w: next_of(100000, LATTICE, w, [0, 0, 0, 0]),
    "next_of with no trials": lambda w: next_of(0, LATTICE, w, [0, 0, 0, 0]),
    "next_of with too few numbers": lambda w: next_of(1, LATTICE, w, []),
    "count": lambda w: count(100000, 10, LATTICE, w),
    "count with no trials": lambda w: count(0, 10, LATTICE, w),
    "count up to none": lambda w: count(1, 0, LATTICE, w),
    "fits": lambda w: fits(LATTICE, w, [0, 0, 0, 0]),
    "fits with too few numbers": lambda w: fits(LATTICE, w, []),
    "letters": lambda w: letters(LATTICE, w, [0, 1, 2, 3]),
    "letters with too few numbers": lambda w: letters(LATTICE, w, []),
}


def listed(text):
    return [ord(sign) for sign in text]


class Words(unittest.TestCase):
    def told(self, text, *lengths):
        with self.subTest(text=text):
            self.assertEqual(words(listed(text)), [len(lengths), *lengths])

    def test_none(self):
        self.told("")

    def test_one(self):
        self.told("CAT\n", 3)

    def test_several_in_their_order(self):
        self.told("CAT\nTO\nEAGLE\nAT\n", 3, 2, 5, 2)
        self.told("AT\nEAGLE\nTO\nCAT\n", 2, 5, 2, 3)

    def test_two_to_nine_letters(self):
        self.told("AZ\n", 2)
        self.told("ABCDEFGHI\n", 9)
        self.told("".join("Q" * size + "\n" for size in range(2, 10)), *range(2, 10))

    def test_every_letter(self):
        self.told("ABCDEFGHI\nJKLMNOPQR\nSTUVWXYZ\n", 9, 9, 8)

    def test_a_word_told_twice_is_two(self):
        self.told("TO\nTO\nTO\n", 2, 2, 2)

    def test_two_hundred(self):
        self.told("TO\n" * 199, *[2] * 199)
        self.told("TO\n" * 200, *[2] * 200)
        self.told("ABCDEFGHI\n" * 200, *[9] * 200)
        self.told("TO\n" * 100 + "ABCDEFGHI\n" * 100, *[2] * 100, *[9] * 100)


class FirstFault(unittest.TestCase):
    def refused(self, text, place):
        for name, call in CALLS.items():
            with self.subTest(call=name, text=text):
                self.assertEqual(call(listed(text)), [-9, place])

    def taken(self, text):
        for name, call in CALLS.items():
            with self.subTest(call=name, text=text):
                self.assertNotEqual(call(listed(text))[0], -9)

    def test_a_word_of_one_letter(self):
        self.refused("A\n", 1)
        self.refused("A\nBC\n", 1)
        self.refused("BC\nA\n", 4)
        self.refused("BC\nDEF\nA\nBC\n", 8)

    def test_a_word_of_more_than_nine(self):
        self.taken("ABCDEFGHI\n")
        self.refused("ABCDEFGHIJ\n", 9)
        self.refused("TO\nABCDEFGHIJ\n", 12)
        self.refused("A" * 2100, 9)

    def test_an_empty_word(self):
        self.refused("\n", 0)
        self.refused("\nAB\n", 0)
        self.refused("AB\n\n", 3)
        self.refused("AB\n\nCD\n", 3)
        self.refused("\n" * 2100, 0)

    def test_ends_within_a_word(self):
        for text in ("A", "AB", "ABCDEFGHI", "TO\nA", "TO\nAB", "TO\nABCDEFGHI", "TO\n" * 199 + "TO",
                     "ABCDEFGHI\n" * 199 + "A"):
            self.refused(text, len(text))

    def test_a_word_behind_the_two_hundredth(self):
        self.taken("TO\n" * 200)
        self.refused("TO\n" * 200 + "T", 600)
        self.refused("TO\n" * 201, 600)
        self.refused("TO\n" * 700, 600)
        self.refused("ABCDEFGHI\n" * 200 + "TO\n", 2000)
        self.refused("ABCDEFGHI\n" * 210, 2000)

    def test_anything_behind_the_two_hundredth(self):
        self.refused("TO\n" * 200 + "\n", 600)
        self.refused("TO\n" * 200 + "a", 600)

    def test_strange_bytes(self):
        letters = range(65, 91)
        for byte in range(256):
            for before in ("", "A", "AB", "TO\n", "TO\nA"):
                w = listed(before) + [byte] + listed("AB\n")
                with self.subTest(byte=byte, before=before):
                    if byte in letters or (byte == 10 and before == "AB"):
                        self.assertIsNone(oracle.words_fault(w))
                    else:
                        self.assertEqual(oracle.words_fault(w), len(before))
                    self.same_fault(w)

    def test_neighbours_of_the_letters(self):
        self.refused("@A\n", 0)
        self.refused("A[\n", 1)
        self.refused("AB\ncd\n", 3)
        self.refused("AB.\n", 2)
        self.refused("A#B\n", 1)
        self.refused("AB CD\n", 2)
        self.taken("AZ\nZA\n")

    def test_line_end_is_ten_alone(self):
        self.refused("AB\r\n", 2)
        self.refused("AB\0", 2)

    def test_first_of_several_faults(self):
        self.refused("ABc\nD\n\n", 2)
        self.refused("AB\nD\nxy\n", 4)

    def test_every_short_text(self):
        texts = [[]]
        for size in range(8):
            for w in texts:
                self.same_fault(w)
            texts = [w + [byte] for w in texts for byte in (10, 46, 65)]

    def test_every_cut_and_every_swap(self):
        for text in ("AB\n", "CAT\nAB\nABCDEFGHI\n"):
            w = listed(text)
            for place in range(len(w)):
                self.same_fault(w[:place])
                self.same_fault(w[:place] + w[place + 1:])
                for byte in (0, 10, 46, 64, 65, 90, 91, 255):
                    self.same_fault(w[:place] + [byte] + w[place + 1:])
                    self.same_fault(w[:place] + [byte] + w[place:])

    def test_any_bytes(self):
        draws = oracle.spread(300 * 40, 2 ** 30)
        for step in range(200):
            w = [next(draws) % 256 for place in range(next(draws) % 40)]
            self.same_fault(w)
            self.same_fault([(10, 65, 90, 77)[byte % 4] for byte in w])
        self.same_fault([255] * 2100)
        self.same_fault([0] * 2100)

    def same_fault(self, w):
        fault = oracle.words_fault(w)
        for name, call in CALLS.items():
            answer = call(w)
            if fault is None:
                self.assertNotEqual(answer[0], -9, (name, w))
            else:
                self.assertEqual(answer, [-9, fault], (name, w))


if __name__ == "__main__":
    unittest.main()
