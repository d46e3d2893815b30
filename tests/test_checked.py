"""Promise 4: checked answers in how many lights a cell is, and which; -4 where there's no white cell."""

import unittest

from crossfilldesk.lattices import checked
from tests import oracle

MOST = 4294967295


class Checked(unittest.TestCase):
    def told(self, rows, r, c, answer):
        with self.subTest(rows=rows, r=r, c=c):
            self.assertEqual(checked(r, c, oracle.bytes_of(*rows)), answer)

    def test_in_two_lights(self):
        ring = ["...", ".#.", "..."]
        self.told(ring, 0, 0, [2, 0, 1])
        self.told(ring, 0, 2, [2, 0, 2])
        self.told(ring, 2, 0, [2, 1, 3])
        self.told(ring, 2, 2, [2, 2, 3])

    def test_in_one_light(self):
        ring = ["...", ".#.", "..."]
        self.told(ring, 0, 1, [1, 0])
        self.told(ring, 1, 0, [1, 1])
        self.told(ring, 1, 2, [1, 2])
        self.told(ring, 2, 1, [1, 3])

    def test_in_none(self):
        self.told(["#.", ".#"], 0, 1, [0])
        self.told(["#.", ".#"], 1, 0, [0])
        self.told(["###", "#.#", "###"], 1, 1, [0])
        self.told([".#..", "##..", "####"], 0, 0, [0])

    def test_the_lights_are_in_order_whatever_their_ways(self):
        # The down light's number is the lower one here, and the across one's there.
        self.told(["#.#", "...", "#.#"], 1, 1, [2, 0, 1])
        self.told(["##.", "...", "##."], 1, 2, [2, 0, 1])
        self.told(["....", "###.", "###."], 0, 3, [2, 0, 1])
        self.told(["#...", "....", "...#"], 1, 0, [2, 4, 5])
        self.told(["#...", "....", "...#"], 2, 0, [2, 5, 6])
        self.told(["#...", "....", "...#"], 1, 3, [2, 3, 4])

    def test_a_block(self):
        self.told(["...", ".#.", "..."], 1, 1, [-4])
        self.told(["##", "##"], 0, 0, [-4])
        self.told(["##", "##"], 1, 1, [-4])
        self.told(["." * 9] * 8 + ["........#"], 8, 8, [-4])

    def test_beyond_the_edge(self):
        rows = ["...", "..."]
        self.told(rows, 1, 2, [2, 3, 4])
        for r, c in ((2, 0), (2, 2), (0, 3), (1, 3), (2, 3), (3, 2), (9, 0), (0, 9), (9, 9), (255, 255)):
            self.told(rows, r, c, [-4])
        for far in (4294967294, MOST):
            self.told(rows, far, 0, [-4])
            self.told(rows, 0, far, [-4])
            self.told(rows, far, far, [-4])

    def test_a_row_does_not_go_on_in_the_next(self):
        # Counted through the text, these places would be other rows' white cells or line ends.
        rows = ["..", "..", ".."]
        for c in range(2, 9):
            self.told(rows, 0, c, [-4])

    def test_higher_than_wide_and_wider_than_high(self):
        self.told(["...", "..."], 0, 2, [2, 0, 3])
        self.told(["...", "..."], 2, 0, [-4])
        self.told(["..", "..", ".."], 2, 0, [2, 1, 4])
        self.told(["..", "..", ".."], 0, 2, [-4])

    def test_a_faulty_text_comes_before_a_missing_cell(self):
        for r in (0, 1, 2, MOST):
            for c in (0, 1, 2, MOST):
                self.assertEqual(checked(r, c, []), [-6, 0])
                self.assertEqual(checked(r, c, [46, 46, 10, 46, 46]), [-6, 5])
                self.assertEqual(checked(r, c, [46, 46, 10, 46, 46, 46, 10]), [-6, 5])

    def test_locked_letters_are_white(self):
        self.told(["CAT", "#.#", "#EN"], 0, 0, [1, 0])
        self.told(["CAT", "#.#", "#EN"], 0, 1, [2, 0, 1])
        self.told(["CAT", "#.#", "#EN"], 2, 1, [2, 1, 2])
        self.told(["CAT", "#.#", "#EN"], 2, 2, [1, 2])
        self.told(["A#", "#Z"], 0, 0, [0])
        self.told(["A#", "#Z"], 1, 1, [0])
        self.told(["A#", "#Z"], 0, 1, [-4])

    def test_smallest(self):
        rows = ["..", ".."]
        self.told(rows, 0, 0, [2, 0, 1])
        self.told(rows, 0, 1, [2, 0, 2])
        self.told(rows, 1, 0, [2, 1, 3])
        self.told(rows, 1, 1, [2, 2, 3])

    def test_largest(self):
        rows = ["." * 9] * 9
        for c in range(9):
            self.told(rows, 0, c, [2, 0, 1 + c])
            for r in range(1, 9):
                self.told(rows, r, c, [2, 1 + c, 9 + r])
        self.told(rows, 9, 8, [-4])
        self.told(rows, 8, 9, [-4])

    def test_every_small_lattice(self):
        for height, width in ((2, 2), (2, 3), (3, 2), (2, 4), (4, 2), (3, 3)):
            for bits in range(2 ** (height * width)):
                self.as_the_document_says(oracle.pattern(height, width, bits))

    def test_scattered_lattices_of_all_sizes(self):
        for rows in oracle.scattered_lattices(100):
            self.as_the_document_says(rows)

    def as_the_document_says(self, rows):
        t = oracle.bytes_of(*rows)
        for r in range(len(rows) + 1):
            for c in range(len(rows[0]) + 1):
                self.assertEqual(checked(r, c, t), oracle.checked_answer(rows, r, c), (rows, r, c))


if __name__ == "__main__":
    unittest.main()
