"""Promise 10: letters answers how many bytes the text with the filling's letters has, then they; -4 of no filling."""

import unittest

from crossfilldesk.lattices import letters
from tests import oracle

MOST = 4294967295
RING = ["...", ".#.", "..."]
RING_WORDS = ["CAT", "CUB", "TUB", "BOB"]


class Letters(unittest.TestCase):
    def told(self, rows, words, f, *filled):
        with self.subTest(rows=rows, words=words[:10], f=f):
            text = oracle.bytes_of(*filled)
            answer = letters(oracle.bytes_of(*rows), oracle.bytes_of(*words), f)
            self.assertEqual(answer, [len(text), *text])
            self.assertEqual(answer[0], len(oracle.bytes_of(*rows)))

    def test_ordinary(self):
        self.told(RING, RING_WORDS, [0, 1, 2, 3], "CAT", "U#U", "BOB")
        self.told(RING, RING_WORDS, [1, 0, 3, 2], "CUB", "A#O", "TUB")
        self.told(["#.#", "...", "#.#"], ["TEN", "BEG"], [0, 1], "#T#", "BEG", "#N#")

    def test_every_byte_by_hand(self):
        self.assertEqual(letters([46, 46, 10, 35, 35, 10], [65, 90, 10], [0]), [6, 65, 90, 10, 35, 35, 10])

    def test_across_and_down(self):
        self.told(["...", "###"], ["ABC"], [0], "ABC", "###")
        self.told([".#", ".#", ".#"], ["ABC"], [0], "A#", "B#", "C#")
        self.told(["##.", "##."], ["YZ"], [0], "##Y", "##Z")

    def test_wider_than_high_and_higher_than_wide(self):
        self.told(["....", "####", "####"], ["ABCD"], [0], "ABCD", "####", "####")
        self.told(["####", "...#"], ["ABC"], [0], "####", "ABC#")
        self.told(["##", "..", "##", ".."], ["AB", "CD"], [1, 0], "##", "CD", "##", "AB")

    def test_white_cells_in_no_light(self):
        self.told(["..#", "##."], ["AB"], [0], "AB#", "##.")
        self.told(["..#", "##Q"], ["AB"], [0], "AB#", "##Q")
        self.told([".#..", "##..", "Z###"], ["AA"] * 4, [0, 1, 2, 3], ".#AA", "##AA", "Z###")

    def test_locked_letters_stay(self):
        self.told(["C..", ".#.", "..B"], RING_WORDS, [0, 1, 2, 3], "CAT", "U#U", "BOB")
        self.told(["CAT", "U#U", "BOB"], RING_WORDS, [0, 1, 2, 3], "CAT", "U#U", "BOB")

    def test_no_lights(self):
        for rows in (["##", "##"], ["#.", ".#"], ["A#", "#Z"], ["#" * 9] * 9):
            for words in ([], ["AB"], ["TO"] * 200):
                self.told(rows, words, [], *rows)

    def test_largest(self):
        self.told(["." * 9] * 9, ["A" * 9] * 200, list(range(182, 200)), *["A" * 9] * 9)
        bars = [".........", "#########"] * 4 + ["........."]
        words = ["ABCDEFGHI", "JKLMNOPQR", "STUVWXYZA", "BCDEFGHIJ", "KLMNOPQRS"]
        self.told(bars, words, [4, 3, 2, 1, 0], words[4], "#" * 9, words[3], "#" * 9, words[2], "#" * 9,
                  words[1], "#" * 9, words[0])

    def test_scattered_lattices_and_words(self):
        some = 0
        for rows, words, sizes in oracle.scattered_fillings(900):
            for filling in sizes[-1][:3] + sizes[-1][-3:]:
                some += len(filling) > 2
                self.as_the_document_says(rows, words, list(filling))
            self.as_the_document_says(rows, words, [0] * (len(sizes) - 1))
        self.assertGreater(some, 300)

    def as_the_document_says(self, rows, words, f):
        answer = letters(oracle.bytes_of(*rows), oracle.bytes_of(*words), f)
        self.assertEqual(answer, oracle.letters_answer(rows, words, f), (rows, words, f))


class Refused(unittest.TestCase):
    def test_a_faulty_lattice_comes_first(self):
        for w in ([], [10], oracle.bytes_of("AB"), [255] * 2100):
            for f in ([], [0], [MOST] * 200):
                self.assertEqual(letters([], w, f), [-6, 0])
                self.assertEqual(letters([46, 46, 10, 46, 46], w, f), [-6, 5])

    def test_faulty_words_come_next(self):
        for rows in (["..", ".."], ["##", "##"]):
            for f in ([], [0], [0, 0, 0, 0], [MOST] * 200):
                self.assertEqual(letters(oracle.bytes_of(*rows), [10], f), [-9, 0])
                self.assertEqual(letters(oracle.bytes_of(*rows), oracle.bytes_of("AB", "C"), f), [-9, 4])

    def test_no_filling_of_each_kind(self):
        t, w = oracle.bytes_of(*RING), oracle.bytes_of(*RING_WORDS, "BO", "CAT")
        for f in ([], [0, 1, 2], [0, 1, 2, 3, 4], [0] * 200,
                  [6, 1, 2, 3], [0, 1, 2, MOST],
                  [0, 1, 2, 4], [4, 1, 2, 3],
                  [0, 0, 2, 3], [0, 1, 2, 0],
                  [0, 2, 1, 3], [0, 1, 3, 2]):
            with self.subTest(f=f):
                self.assertEqual(letters(t, w, f), [-4])
        self.assertEqual(letters(oracle.bytes_of("D..", ".#.", "..."), w, [0, 1, 2, 3]), [-4])
        self.assertEqual(letters(oracle.bytes_of("##", "##"), w, [0]), [-4])
        self.assertEqual(letters(t, w, [5, 1, 2, 3])[0], 12)


if __name__ == "__main__":
    unittest.main()
