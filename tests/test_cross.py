"""Promise 3: cross answers 1 and the two places where lights cross, else 0; -4 where there's no such light."""

import unittest

from crossfilldesk.lattices import cross
from tests import oracle

MOST = 4294967295


class Cross(unittest.TestCase):
    def told(self, rows, i, j, answer):
        with self.subTest(rows=rows, i=i, j=j):
            self.assertEqual(cross(i, j, oracle.bytes_of(*rows)), answer)

    def both_ways_about(self, rows, i, j, place, other):
        self.told(rows, i, j, [1, place, other])
        self.told(rows, j, i, [1, other, place])

    def test_at_first_and_last_cells(self):
        ring = ["...", ".#.", "..."]
        self.both_ways_about(ring, 0, 1, 0, 0)
        self.both_ways_about(ring, 0, 2, 2, 0)
        self.both_ways_about(ring, 3, 1, 0, 2)
        self.both_ways_about(ring, 3, 2, 2, 2)

    def test_at_middle_cells(self):
        self.both_ways_about(["#.#", "...", "#.#"], 0, 1, 1, 1)
        self.both_ways_about(["##.##", "##.##", "##.##", ".....", "##.##"], 0, 1, 3, 2)
        self.both_ways_about(["###.", "....", "###.", "###."], 0, 1, 1, 3)

    def test_places_are_counted_within_the_lights(self):
        rows = ["######", "####.#", "##...#", "####.#", "####.#"]
        self.both_ways_about(rows, 0, 1, 1, 2)

    def test_two_lights_of_one_way(self):
        ring = ["...", ".#.", "..."]
        self.told(ring, 0, 3, [0])
        self.told(ring, 3, 0, [0])
        self.told(ring, 1, 2, [0])
        self.told(ring, 2, 1, [0])
        self.told(["..#..", "#####"], 0, 1, [0])
        self.told([".#", ".#", "##", ".#", ".#"], 0, 1, [0])

    def test_of_the_two_ways_but_apart(self):
        rows = ["...#.", "####.", "####."]
        self.told(rows, 0, 1, [0])
        self.told(rows, 1, 0, [0])
        # The across one's row and the down one's column meet where neither is.
        self.told(["..##", "####", "###.", "###."], 0, 1, [0])
        self.told(["#..", "###", ".##", ".##"], 0, 1, [0])
        # They touch at a corner alone.
        self.told(["###.", "###.", "#..#"], 0, 1, [0])
        self.told(["#..#", "###.", "###."], 1, 0, [0])

    def test_a_light_with_itself(self):
        for rows in (["..", ".."], ["..", "##"], ["#.", "#."], ["." * 9] * 9):
            for light in range(len(oracle.lights(rows))):
                self.told(rows, light, light, [0])

    def test_no_such_light(self):
        ring = ["...", ".#.", "..."]
        for wrong in (4, 5, 255, 4294967294, MOST):
            for right in (0, 1, 3):
                self.told(ring, wrong, right, [-4])
                self.told(ring, right, wrong, [-4])
            self.told(ring, wrong, wrong, [-4])
        self.told(["..", "##"], 0, 1, [-4])
        self.told(["..", "##"], 1, 0, [-4])

    def test_a_lattice_without_lights(self):
        for rows in (["##", "##"], ["#.", ".#"], ["#" * 9] * 9, ["Q#", "#X"]):
            for i in (0, 1, MOST):
                for j in (0, 1, MOST):
                    self.told(rows, i, j, [-4])

    def test_a_faulty_text_comes_before_a_missing_light(self):
        for i in (0, 3, 4, MOST):
            for j in (0, 3, 4, MOST):
                self.assertEqual(cross(i, j, []), [-6, 0])
                self.assertEqual(cross(i, j, [46, 46, 10, 46, 46]), [-6, 5])
                self.assertEqual(cross(i, j, [46, 46, 10, 46, 46, 46, 10]), [-6, 5])

    def test_locked_letters_are_white(self):
        self.both_ways_about(["CAT", "#.#", "#EN"], 0, 1, 1, 0)
        self.both_ways_about(["CAT", "#.#", "#EN"], 2, 1, 0, 2)
        self.told(["CAT", "#.#", "#EN"], 0, 2, [0])

    def test_smallest(self):
        rows = ["..", ".."]
        self.both_ways_about(rows, 0, 1, 0, 0)
        self.both_ways_about(rows, 0, 2, 1, 0)
        self.both_ways_about(rows, 3, 1, 0, 1)
        self.both_ways_about(rows, 3, 2, 1, 1)

    def test_largest(self):
        rows = ["." * 9] * 9
        across = [0] + list(range(10, 18))
        for row in range(9):
            for column in range(9):
                self.both_ways_about(rows, across[row], 1 + column, column, row)
        self.told(rows, 17, 18, [-4])
        self.told(rows, 18, 17, [-4])

    def test_every_small_lattice(self):
        for height, width in ((2, 2), (2, 3), (3, 2), (3, 3)):
            for bits in range(2 ** (height * width)):
                self.as_the_document_says(oracle.pattern(height, width, bits))

    def test_scattered_lattices_of_all_sizes(self):
        for rows in oracle.scattered_lattices(40):
            self.as_the_document_says(rows)

    def as_the_document_says(self, rows):
        t = oracle.bytes_of(*rows)
        some = len(oracle.lights(rows)) + 1
        for i in range(some):
            for j in range(some):
                self.assertEqual(cross(i, j, t), oracle.cross_answer(rows, i, j), (rows, i, j))


if __name__ == "__main__":
    unittest.main()
