"""Promise 2: lights answers how many, and of each its number, way, first cell and length, in order."""

import unittest

from crossfilldesk.lattices import lights
from tests import oracle


class Lights(unittest.TestCase):
    def told(self, rows, *each):
        with self.subTest(rows=rows):
            answer = [len(each)] + [number for light in each for number in light]
            self.assertEqual(lights(oracle.bytes_of(*rows)), answer)

    def test_ordinary(self):
        self.told(["...", ".#.", "..."],
                  (1, 0, 0, 0, 3), (1, 1, 0, 0, 3), (2, 1, 0, 2, 3), (3, 0, 2, 0, 3))
        self.told(["#...", "....", "...#"],
                  (1, 0, 0, 1, 3), (1, 1, 0, 1, 3), (2, 1, 0, 2, 3), (3, 1, 0, 3, 2),
                  (4, 0, 1, 0, 4), (4, 1, 1, 0, 2), (5, 0, 2, 0, 3))

    def test_across_before_down_at_one_number(self):
        self.told(["..", ".#"], (1, 0, 0, 0, 2), (1, 1, 0, 0, 2))
        self.told(["##..", "##..", "####"],
                  (1, 0, 0, 2, 2), (1, 1, 0, 2, 2), (2, 1, 0, 3, 2), (3, 0, 1, 2, 2))

    def test_down_alone_at_a_lower_number(self):
        self.told(["#.#", "...", "#.#"], (1, 1, 0, 1, 3), (2, 0, 1, 0, 3))

    def test_several_in_a_row_and_in_a_column(self):
        self.told(["..#...", "######"], (1, 0, 0, 0, 2), (2, 0, 0, 3, 3))
        self.told([".#", ".#", "##", ".#", ".#", ".#"], (1, 1, 0, 0, 2), (2, 1, 3, 0, 3))

    def test_in_the_last_row_and_column(self):
        self.told(["###", "#.#", "..."], (1, 1, 1, 1, 2), (2, 0, 2, 0, 3))
        self.told(["##.", "#..", "##."], (1, 1, 0, 2, 3), (2, 0, 1, 1, 2))

    def test_a_row_does_not_go_on_in_the_next(self):
        self.told(["##.", ".##"])
        self.told(["##.", "..#", "###"], (1, 0, 1, 0, 2))

    def test_smallest(self):
        self.told(["..", ".."], (1, 0, 0, 0, 2), (1, 1, 0, 0, 2), (2, 1, 0, 1, 2), (3, 0, 1, 0, 2))
        self.told(["..", "##"], (1, 0, 0, 0, 2))
        self.told(["#.", "#."], (1, 1, 0, 1, 2))

    def test_largest(self):
        downs = [(column + 1, 1, 0, column, 9) for column in range(9)]
        acrosses = [(row + 9, 0, row, 0, 9) for row in range(1, 9)]
        self.told(["." * 9] * 9, (1, 0, 0, 0, 9), *downs, *acrosses)

    def test_none(self):
        self.told(["##", "##"])
        self.told(["#.", ".#"])
        self.told(["#" * 9] * 9)
        self.told([".#.#.#.#.", "#.#.#.#.#"] * 4 + [".#.#.#.#."])

    def test_a_white_cell_without_a_white_neighbour_is_no_light(self):
        self.told(["..#", "##."], (1, 0, 0, 0, 2))
        self.told([".#..", "##..", "####"],
                  (1, 0, 0, 2, 2), (1, 1, 0, 2, 2), (2, 1, 0, 3, 2), (3, 0, 1, 2, 2))
        self.told([".##", "#..", "#.#"], (1, 0, 1, 1, 2), (1, 1, 1, 1, 2))

    def test_locked_letters(self):
        self.told(["A.", "#Z"], (1, 0, 0, 0, 2), (2, 1, 0, 1, 2))
        self.told(["CAT", "#.#", "#EN"],
                  (1, 0, 0, 0, 3), (2, 1, 0, 1, 3), (3, 0, 2, 1, 2))
        self.told(["Q#", "#X"])

    def test_every_small_lattice(self):
        for height, width in ((2, 2), (2, 3), (3, 2), (2, 4), (4, 2), (3, 3), (5, 2), (3, 4), (4, 3)):
            for bits in range(2 ** (height * width)):
                self.as_the_document_says(oracle.pattern(height, width, bits))

    def test_scattered_lattices_of_all_sizes(self):
        for rows in oracle.scattered_lattices(1000):
            self.as_the_document_says(rows)

    def test_locks_change_no_light(self):
        for rows in oracle.scattered_lattices(200):
            locked = ["".join(sign if sign == "#" else "K" for sign in row) for row in rows]
            self.assertEqual(lights(oracle.bytes_of(*rows)), lights(oracle.bytes_of(*locked)), rows)

    def as_the_document_says(self, rows):
        self.assertEqual(lights(oracle.bytes_of(*rows)), oracle.lights_answer(rows), rows)


if __name__ == "__main__":
    unittest.main()
