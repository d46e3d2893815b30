"""Promise 9: fits answers 1 of a filling, else 0 and what's wrong first: the kind, and how many or the light."""

import unittest

from crossfilldesk.lattices import fits
from tests import oracle

MOST = 4294967295
RING = ["...", ".#.", "..."]
RING_WORDS = ["CAT", "CUB", "TUB", "BOB"]
BARS = ["...", "###", "..."]
NO_LIGHTS = (["##", "##"], ["#.", ".#"], ["A#", "#Z"], ["#" * 9] * 9)


class Fits(unittest.TestCase):
    def told(self, rows, words, f, *answer):
        with self.subTest(rows=rows, words=words[:10], f=f):
            self.assertEqual(fits(oracle.bytes_of(*rows), oracle.bytes_of(*words), f), list(answer))

    def test_a_filling(self):
        self.told(RING, RING_WORDS, [0, 1, 2, 3], 1)
        self.told(RING, RING_WORDS, [1, 0, 3, 2], 1)
        self.told(BARS, ["ABC", "AB", "ABC"], [2, 0], 1)
        self.told(["..", "##"], ["AB"], [0], 1)
        self.told(["C..", ".#.", "..B"], RING_WORDS, [0, 1, 2, 3], 1)
        self.told(["." * 9] * 9, ["A" * 9] * 200, list(range(182, 200)), 1)

    def test_the_empty_one(self):
        for rows in NO_LIGHTS:
            for words in ([], ["AB"], ["TO"] * 200):
                self.told(rows, words, [], 1)

    def test_1_not_as_many(self):
        for words in ([], ["AB"], RING_WORDS):
            self.told(RING, words, [], 0, 1, 0)
            self.told(RING, words, [0], 0, 1, 1)
            self.told(RING, words, [0, 1, 2], 0, 1, 3)
            self.told(RING, words, [0, 1, 2, 3, 4], 0, 1, 5)
            self.told(RING, words, [0, 1, 2, 3, 0, 1, 2, 3], 0, 1, 8)
            self.told(RING, words, [MOST] * 199, 0, 1, 199)
            self.told(RING, words, [0] * 200, 0, 1, 200)
        for rows in NO_LIGHTS:
            self.told(rows, ["AB"], [0], 0, 1, 1)
            self.told(rows, [], [MOST] * 200, 0, 1, 200)

    def test_2_no_such_word(self):
        self.told(RING, RING_WORDS, [4, 1, 2, 3], 0, 2, 0)
        self.told(RING, RING_WORDS, [0, 4, 2, 3], 0, 2, 1)
        self.told(RING, RING_WORDS, [0, 1, 2, 4], 0, 2, 3)
        self.told(RING, RING_WORDS, [0, 1, 2, MOST], 0, 2, 3)
        self.told(RING, RING_WORDS, [MOST] * 4, 0, 2, 0)
        self.told(["..", "##"], [], [0], 0, 2, 0)
        self.told(["..", "##"], ["AB"] * 200, [199], 1)
        self.told(["..", "##"], ["AB"] * 200, [200], 0, 2, 0)

    def test_3_its_length(self):
        self.told(["...", "###"], ["AB", "ABC", "ABCD"], [0], 0, 3, 0)
        self.told(["...", "###"], ["AB", "ABC", "ABCD"], [1], 1)
        self.told(["...", "###"], ["AB", "ABC", "ABCD"], [2], 0, 3, 0)
        self.told(BARS, ["ABC", "AB"], [0, 1], 0, 3, 1)

    def test_3_a_locked_letter(self):
        self.told(["B..", "###"], ["ABC"], [0], 0, 3, 0)
        self.told([".A.", "###"], ["ABC"], [0], 0, 3, 0)
        self.told(["..B", "###"], ["ABC"], [0], 0, 3, 0)
        self.told(["A.C", "###"], ["ABC"], [0], 1)
        self.told(["...", ".#.", "..D"], RING_WORDS, [0, 1, 2, 3], 0, 3, 2)
        self.told(["...", ".#.", ".E."], RING_WORDS, [0, 1, 2, 3], 0, 3, 3)

    def test_4_the_number_stands_before(self):
        self.told(BARS, ["ABC", "ABC"], [0, 0], 0, 4, 1)
        self.told(BARS, ["ABC", "ABC"], [1, 1], 0, 4, 1)
        self.told(["..", ".#"], ["AA"], [0, 0], 0, 4, 1)
        self.told(["..", ".."], ["AA"] * 3, [0, 1, 2, 1], 0, 4, 3)
        self.told(["..", ".."], ["AA"] * 4, [3, 1, 2, 3], 0, 4, 3)

    def test_5_another_letter_where_it_crosses(self):
        self.told(["..", ".#"], ["AB", "BA"], [0, 1], 0, 5, 1)
        self.told(RING, RING_WORDS, [0, 2, 1, 3], 0, 5, 1)
        self.told(RING, RING_WORDS, [0, 1, 3, 2], 0, 5, 2)
        self.told(["..", ".."], ["AB", "AC", "BD", "CE"], [0, 1, 2, 3], 0, 5, 3)
        self.told(["..", ".."], ["AB", "AC", "BD", "DD"], [0, 1, 2, 3], 0, 5, 3)

    def test_a_later_light_is_not_looked_at_from_an_earlier_one(self):
        # Lights 0 and 1 cross with other letters: the fault is the later light's.
        self.told(["..", ".#"], ["AB", "CD"], [1, 0], 0, 5, 1)

    def test_several_in_one_light(self):
        # Wrong by itself and told before; wrong by itself and where it crosses; told before and where it crosses.
        self.told(["...", ".##"], ["ABC", "AB"], [0, 0], 0, 3, 1)
        self.told(["..", ".#", ".#"], ["AB", "XY"], [0, 1], 0, 3, 1)
        self.told(["..", "B#"], ["AB", "CC"], [0, 1], 0, 3, 1)
        self.told(["..", "#."], ["AB", "AC"], [0, 0], 0, 4, 1)
        # There's no such word, and its number stands before, where that comes first.
        self.told(["..", ".#"], ["AB"], [7, 7], 0, 2, 0)

    def test_several_in_several_lights(self):
        self.told(BARS, ["ABC", "AB"], [1, 2], 0, 3, 0)
        self.told(BARS, ["ABC", "AB"], [1, 1], 0, 3, 0)
        self.told(RING, RING_WORDS, [0, 0, 4, 3], 0, 4, 1)
        self.told(RING, RING_WORDS, [0, 2, 4, 3], 0, 5, 1)
        self.told(RING, RING_WORDS, [0, 1, 1, 4], 0, 4, 2)
        self.told(RING, RING_WORDS, [0, 1, 4, 4], 0, 2, 2)

    def test_how_many_comes_before_all_else(self):
        self.told(RING, RING_WORDS, [MOST, 0, 0], 0, 1, 3)
        self.told(BARS, ["AB"], [0, 0, 0], 0, 1, 3)

    def test_every_list_of_numbers(self):
        for rows, words in ((["..", ".."], ["AB", "AC", "BD", "CD", "ABC"]), (["A.", ".#"], ["AB", "AC", "BA", "AAA"]),
                            (RING, RING_WORDS)):
            lists = [[]]
            for size in range(5):
                for f in lists:
                    self.as_the_document_says(rows, words, f)
                lists = [f + [k] for f in lists for k in range(len(words) + 1)]

    def test_scattered_lattices_words_and_numbers(self):
        draws = oracle.spread(200000, 2 ** 30)
        kinds = {}
        for rows, words, sizes in oracle.scattered_fillings(900):
            begun = [()] + [size[next(draws) % len(size)] for size in sizes if size]
            for step in range(12):
                # Beginnings of fillings with anything behind, so that the fault lies anywhere.
                f = list(begun[next(draws) % len(begun)])
                while len(f) < len(sizes) - 1:
                    f.append(next(draws) % (len(words) + 1))
                if step == 0:
                    f = f[1:] or [0]
                told = self.as_the_document_says(rows, words, f)
                kinds[tuple(told[:2])] = kinds.get(tuple(told[:2]), 0) + 1
        self.assertEqual(sorted(kinds), [(0, 1), (0, 2), (0, 3), (0, 4), (0, 5), (1,)])
        self.assertGreater(min(kinds.values()), 100)

    def as_the_document_says(self, rows, words, f):
        answer = fits(oracle.bytes_of(*rows), oracle.bytes_of(*words), f)
        self.assertEqual(answer, oracle.fits_answer(rows, words, f), (rows, words, f))
        return answer


class Refused(unittest.TestCase):
    def test_a_faulty_lattice_comes_first(self):
        for w in ([], [10], oracle.bytes_of("AB"), [255] * 2100):
            for f in ([], [0], [MOST] * 200):
                self.assertEqual(fits([], w, f), [-6, 0])
                self.assertEqual(fits([46, 46, 10, 46, 46], w, f), [-6, 5])

    def test_faulty_words_come_next(self):
        for rows in (["..", ".."], ["##", "##"]):
            for f in ([], [0], [0, 0, 0, 0], [MOST] * 200):
                self.assertEqual(fits(oracle.bytes_of(*rows), [10], f), [-9, 0])
                self.assertEqual(fits(oracle.bytes_of(*rows), oracle.bytes_of("AB", "C"), f), [-9, 4])


if __name__ == "__main__":
    unittest.main()
