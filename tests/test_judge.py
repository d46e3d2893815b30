"""Promise 1: judge answers 0, or the first kind of fault with its row and column."""

import unittest

from crossfilldesk.lattices import judge
from tests import oracle


class Judge(unittest.TestCase):
    def judged(self, rows, answer):
        with self.subTest(rows=rows):
            self.assertEqual(judge(oracle.bytes_of(*rows)), answer)

    def test_good(self):
        self.judged(["..."] * 3, [0])
        self.judged(["...."] * 3, [0])
        self.judged(["..."] * 9, [0])
        self.judged(["...", ".#.", "..."], [0])
        self.judged([".....", ".#.#.", ".....", ".#.#.", "....."], [0])
        self.judged(["##...", ".#.#.", ".....", ".#.#.", "...##"], [0])

    def test_smallest(self):
        self.judged(["##", "##"], [1, 0, 0])
        self.judged(["#.", "##"], [2, 0, 1])
        self.judged(["#.", ".#"], [3, 1, 0])
        self.judged([".#", "#."], [3, 1, 1])
        self.judged(["..", ".."], [5, 0, 0])

    def test_largest(self):
        self.judged(["." * 9] * 9, [0])
        self.judged([".........", ".#.#.#.#."] * 4 + ["........."], [0])
        self.judged(["#" * 9] * 9, [1, 0, 0])
        self.judged(["." * 9] * 8 + ["........#"], [2, 0, 0])
        self.judged(["." * 9] * 4 + ["#" * 9] + ["." * 9] * 4, [3, 5, 0])
        self.judged(["#" * 9] * 4 + ["####.####"] + ["#" * 9] * 4, [4, 4, 4])
        self.judged(["#" * 9] * 4 + ["." * 9] + ["#" * 9] * 4, [6, 4, 0])
        self.judged(["#.#.#.#.#", "........."] * 4 + ["#.#.#.#.#"], [7, 0, 1])

    def test_1_no_white_cell(self):
        self.judged(["###", "###"], [1, 0, 0])
        self.judged(["##"] * 9, [1, 0, 0])

    def test_2_white_where_a_block_is_faced(self):
        self.judged(["...", "...", "..#"], [2, 0, 0])
        self.judged(["...", "..#", "..."], [2, 1, 0])
        self.judged(["...", "...", ".#."], [2, 0, 1])

    def test_2_a_block_where_white_is_faced(self):
        self.judged(["#..", "...", "..."], [2, 0, 0])
        self.judged([".#.", "...", "..."], [2, 0, 1])
        self.judged(["...", "#..", "..."], [2, 1, 0])

    def test_2_turned_is_not_mirrored(self):
        self.judged(["#..", "...", "#.."], [2, 0, 0])
        self.judged(["#.#", "...", "..."], [2, 0, 0])
        self.judged(["#..", "...", "..#"], [5, 0, 1])

    def test_2_the_first_of_several(self):
        self.judged(["....", ".##.", "..#.", "#..."], [2, 0, 3])
        self.judged(["#..", ".##"], [2, 0, 1])

    def test_3_cut_off(self):
        self.judged(["...", "###", "..."], [3, 2, 0])
        self.judged([".#.", ".#.", ".#."], [3, 0, 2])
        self.judged(["#.#", ".#.", "#.#"], [3, 1, 0])

    def test_3_the_first_cut_off_is_told(self):
        self.judged([".#.#.", ".#.#.", ".#.#."], [3, 0, 2])
        self.judged(["...", "...", "###", "#.#", "###", "...", "..."], [3, 3, 1])

    def test_3_no_way_over_a_corner(self):
        self.judged(["...###"] * 3 + ["###..."] * 3, [3, 3, 3])
        self.judged(["###..."] * 3 + ["...###"] * 3, [3, 3, 0])

    def test_3_ways_to_all_four_sides_count(self):
        self.judged([".......", "######.", ".......", ".######", "......."], [6, 0, 0])
        self.judged([".....#.", ".###.#.", ".#...#.", ".#.###.", ".#....."], [6, 0, 1])

    def test_4_in_no_light(self):
        self.judged(["###", "#.#", "###"], [4, 1, 1])
        self.judged(["#####", "##.##", "#####"], [4, 1, 2])

    def test_5_light_of_two(self):
        self.judged(["...", "..."], [5, 0, 0])
        self.judged(["#.#", "#.#"], [5, 0, 1])
        self.judged(["####", "#..#", "####"], [5, 1, 1])

    def test_5_the_first_such_light_is_told(self):
        self.judged(["#...", "....", "...#"], [5, 0, 3])
        self.judged(["..#..", "..#..", ".....", "..#..", "..#.."], [5, 0, 0])

    def test_6_two_unchecked_side_by_side(self):
        self.judged(["###", "...", "###"], [6, 1, 0])
        self.judged(["....", ".##.", ".##.", "...."], [6, 0, 1])
        self.judged(["...", ".#.", ".#.", "..."], [6, 1, 0])

    def test_6_the_last_two_of_a_light(self):
        self.judged(["#.#.", "#.#.", "....", ".#.#", ".#.#"], [6, 0, 1])
        self.judged(["...##", ".#.##", ".....", "##.#.", "##..."], [0])
        self.judged(["...####", "...####", "...####", ".......", "####...", "####...", "####..."], [0])

    def test_6_the_first_pair_of_the_first_such_light(self):
        self.judged(["....#", ".##.#", ".##.#", ".....", "#.##.", "#.##.", "#...."], [6, 0, 1])
        self.judged([".#...", ".#...", ".....", "...#.", "...#."], [6, 0, 0])

    def test_7_less_than_half_checked(self):
        self.judged(["#.#", "...", "#.#"], [7, 0, 1])
        self.judged([".#.", "...", ".#."], [7, 0, 0])
        self.judged([".#.#.", ".....", ".#.#."], [7, 0, 0])
        self.judged(["#...#", ".#.#.", ".....", ".#.#.", "#...#"], [7, 0, 1])

    def test_7_just_half_is_enough(self):
        self.judged(["...#.", ".#...", "...#.", ".#..."], [0])
        self.judged(["#....", ".#.#.", ".....", ".#.#.", "....#"], [0])

    def test_the_first_kind_is_told_wherever_others_lie(self):
        self.judged([".#.#", "..#."], [2, 0, 3])
        self.judged([".##", ".#."], [2, 0, 2])
        self.judged([".#", ".."], [2, 0, 1])
        self.judged([".#.", ".#."], [3, 0, 2])
        self.judged(["...##", "##..."], [5, 0, 2])
        self.judged([".##.", "....", ".##."], [6, 1, 1])

    def test_locked_letters_are_white(self):
        self.judged(["A..", "...", "..."], [0])
        self.judged(["ABC", "XYZ", "QRS"], [0])
        self.judged(["Z#", "##"], [2, 0, 0])
        self.judged(["A#.", "B#.", "C#."], [3, 0, 2])
        self.judged(["###", "#Q#", "###"], [4, 1, 1])
        self.judged(["A.", ".Z"], [5, 0, 0])
        self.judged(["###", "A.Z", "###"], [6, 1, 0])
        self.judged(["#M#", "...", "#.#"], [7, 0, 1])

    def test_every_small_lattice(self):
        for height, width in ((2, 2), (2, 3), (3, 2), (2, 4), (4, 2), (3, 3), (2, 5), (3, 4), (4, 3)):
            for bits in range(2 ** (height * width)):
                self.as_the_document_says(oracle.pattern(height, width, bits))

    def test_every_lattice_turned_alike_up_to_five_by_five(self):
        kinds = set()
        for height in range(2, 6):
            for width in range(2, 6):
                for bits in range(2 ** ((height * width + 1) // 2)):
                    kinds.add(self.as_the_document_says(oracle.turned_alike(height, width, bits)))
        self.assertEqual(kinds, {0, 1, 3, 4, 5, 6, 7})

    def test_scattered_lattices_of_all_sizes(self):
        for rows in oracle.scattered_lattices(600):
            self.as_the_document_says(rows)

    def test_few_blocks_turned_alike_of_all_sizes(self):
        draws = oracle.spread(20000, 2 ** 41)
        for height in range(2, 10):
            for width in range(2, 10):
                for step in range(12):
                    bits = next(draws) & next(draws) & next(draws)
                    self.as_the_document_says(oracle.turned_alike(height, width, bits))

    def as_the_document_says(self, rows):
        answer = judge(oracle.bytes_of(*rows))
        self.assertEqual(answer, oracle.judge_answer(rows), rows)
        return answer[0]


if __name__ == "__main__":
    unittest.main()
