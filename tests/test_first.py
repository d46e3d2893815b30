"""Promise 6: first answers 1 and the first filling's numbers, 0 where there's none, -7 where trials are too few."""

import time
import unittest

from crossfilldesk.lattices import first
from tests import oracle

MOST = 4294967295
RING = ["...", ".#.", "..."]
RING_WORDS = ["CAT", "CUB", "TUB", "BOB"]
BARS = ["...", "###", "..."]
NO_LIGHTS = (["##", "##"], ["#.", ".#"], ["A#", "#Z"], ["#" * 9] * 9)


class First(unittest.TestCase):
    def told(self, rows, words, answer, n=100000):
        with self.subTest(rows=rows, words=words[:10], n=n):
            self.assertEqual(first(n, oracle.bytes_of(*rows), oracle.bytes_of(*words)), answer)

    def least(self, rows, words, n, answer):
        """n trials are enough, and one less is too few; more change nothing."""
        self.told(rows, words, answer, n)
        if n > 1:
            self.told(rows, words, [-7], n - 1)
            self.told(rows, words, [-7], 1)
        if n < 100000:
            self.told(rows, words, answer, n + 1)
        self.told(rows, words, answer)

    def test_numbers_in_the_lights_order(self):
        self.told(RING, RING_WORDS, [1, 0, 1, 2, 3])
        self.told(RING, ["XX", "BOB", "TUB", "XYZ", "CUB", "CAT"], [1, 4, 5, 1, 2])
        self.told(["#.#", "...", "#.#"], ["TEN", "BEG"], [1, 0, 1])

    def test_down_before_across_where_its_number_is_lower(self):
        self.told(["#.#", "...", "#.#", "#.#"], ["TEN", "BEGS"], [1, 1, 0])

    def test_none(self):
        self.told(RING, ["CAT", "CUB", "TUB", "DOB"], [0])
        self.told(["..", "##"], ["CAT"], [0])
        self.told(["..", "##"], ["CAT", "A" * 9], [0])

    def test_no_words_at_all(self):
        self.told(RING, [], [0])
        self.told(["..", "##"], [], [0], 1)
        self.told(["." * 9] * 9, [], [0], 1)

    def test_no_lights(self):
        for rows in NO_LIGHTS:
            for words in ([], ["AB"], ["TO"] * 200):
                for n in (1, 2, 100000):
                    self.told(rows, words, [1], n)

    def test_length(self):
        self.told(["...", "###"], ["AB", "ABCD", "ABC"], [1, 2])
        self.told(["." * 9, "#" * 9], ["A" * 8, "A" * 9], [1, 1])
        self.told(["..", "##"], ["ABC", "AB"], [1, 1])

    def test_locked_letters(self):
        self.told(["B..", "###"], ["ABC", "CBA", "BBB"], [1, 2])
        self.told([".A.", "###"], ["ABC", "CBA", "BBB", "CAB"], [1, 3])
        self.told(["..C", "###"], ["CBA", "ABC", "BBC"], [1, 1])
        self.told(["A.C", "###"], ["ABA", "CBC", "ABC"], [1, 2])
        self.told(["AB", "##"], ["BA", "AB"], [1, 1])
        self.told(["A#", ".#"], ["BA", "AB"], [1, 1])
        self.told(["AB", "##"], ["BA", "AA", "BB"], [0])
        self.told(["Z..", ".#.", "..."], RING_WORDS, [0])
        self.told(["...", ".#.", "T.."], RING_WORDS, [1, 1, 0, 3, 2])

    def test_a_locked_letter_in_no_light_asks_nothing(self):
        self.told(["..#", "##Q"], ["AB"], [1, 0])

    def test_crossings(self):
        self.told(["..", ".#"], ["AB", "BA"], [0])
        self.told(["..", ".#"], ["AB", "BA", "AC"], [1, 0, 2])
        self.told(["..", "#."], ["AB", "AC", "BA"], [1, 0, 2])
        self.told(["#.", ".."], ["AB", "AC", "BB"], [1, 0, 2])
        self.told(["..", ".."], ["AB", "AC", "BD", "CD"], [1, 0, 1, 2, 3])
        self.told(["..", ".."], ["AB", "AC", "BD", "CE"], [0])

    def test_a_number_stands_once(self):
        self.told(BARS, ["ABC"], [0])
        self.told(["..", ".#"], ["AB"], [0])
        self.told(BARS, ["ABC", "CBA"], [1, 0, 1])

    def test_a_word_told_twice_is_two_words(self):
        self.told(BARS, ["ABC", "ABC"], [1, 0, 1])
        self.told(["..", ".#"], ["AB", "AB"], [1, 0, 1])
        self.told(["..", ".."], ["AA"] * 3, [0])
        self.told(["..", ".."], ["AA"] * 4, [1, 0, 1, 2, 3])

    def test_the_first_in_order_of_several(self):
        self.told(RING, RING_WORDS, [1, 0, 1, 2, 3])
        self.told(RING, ["CUB", "CAT", "TUB", "BOB"], [1, 0, 1, 3, 2])
        self.told(BARS, ["AB", "ABC", "CAB", "BCA"], [1, 1, 2])
        # 1, 2 is a filling as well: the first light comes first, whatever stands in the second.
        self.told(["..", "#."], ["AB", "CD", "DE", "BA"], [1, 0, 3])

    def test_back_to_an_earlier_light(self):
        self.told(["..", ".#"], ["AB", "BA", "CA", "BC"], [1, 1, 3])
        self.told(RING, ["CAD"] + RING_WORDS, [1, 1, 2, 3, 4])

    def test_trials_up_to_a_filling(self):
        # Each word is tried, be it of another length, or in another light already.
        self.least(["..", "##"], ["AB"], 1, [1, 0])
        self.least(["..", "##"], ["ABC", "ABCD", "AB"], 3, [1, 2])
        self.least(BARS, ["ABC", "CBA"], 3, [1, 0, 1])
        self.least(RING, RING_WORDS, 1 + 2 + 3 + 4, [1, 0, 1, 2, 3])
        self.least(["..", ".#"], ["AB", "BA", "CA", "BC"], 1 + 4 + 1 + 4, [1, 1, 3])
        self.least(["..", ".."], ["AA"] * 200, 1 + 2 + 3 + 4, [1, 0, 1, 2, 3])

    def test_trials_where_there_is_none(self):
        self.least(["..", "##"], ["ABC"], 1, [0])
        self.least(["..", "##"], ["ABC"] * 200, 200, [0])
        self.least(["..", ".#"], ["AB", "BA"], 2 + 2 * 2, [0])
        self.least(BARS, ["ABC", "AB"], 2 + 2, [0])
        self.least(RING, ["CAT"], 1 + 1, [0])

    def test_no_trial_is_needed(self):
        for rows in NO_LIGHTS:
            self.least(rows, ["AB"], 1, [1])
        self.least(["." * 9] * 9, [], 1, [0])

    def test_scattered_lattices_and_words(self):
        some = [0, 0]
        for rows, words, sizes in oracle.scattered_fillings(1500):
            if sizes[-1]:
                n = oracle.trials_up_to(sizes, words, sizes[-1][0])
                self.least(rows, words, max(n, 1), [1, *sizes[-1][0]])
            else:
                self.least(rows, words, max(oracle.all_trials(sizes, words), 1), [0])
            some[bool(sizes[-1])] += len(sizes) > 4
        self.assertGreater(min(some), 50)


class Refused(unittest.TestCase):
    def test_a_faulty_lattice_comes_first(self):
        for n in (0, 1, 100000, 100001, MOST):
            for w in ([], [10], oracle.bytes_of("AB"), [255] * 2100):
                self.assertEqual(first(n, [], w), [-6, 0])
                self.assertEqual(first(n, [46, 46, 10, 46, 46], w), [-6, 5])

    def test_faulty_words_come_next(self):
        for rows in (["..", ".."], ["##", "##"]):
            for n in (0, 1, 100000, 100001, MOST):
                self.assertEqual(first(n, oracle.bytes_of(*rows), [10]), [-9, 0])
                self.assertEqual(first(n, oracle.bytes_of(*rows), oracle.bytes_of("AB", "C")), [-9, 4])
                self.assertEqual(first(n, oracle.bytes_of(*rows), [65, 66]), [-9, 2])

    def test_trials_out_of_range_come_before_too_few(self):
        for rows in (["..", ".."], ["##", "##"]):
            for words in ([], ["AB"], ["AA"] * 200):
                t, w = oracle.bytes_of(*rows), oracle.bytes_of(*words)
                for n in (0, 100001, 100002, 4294967294, MOST):
                    self.assertEqual(first(n, t, w), [-1])
                for n in (1, 2, 99999, 100000):
                    self.assertIn(first(n, t, w)[0], (0, 1, -7))


class Large(unittest.TestCase):
    """Searches of about as many trials as there may be."""

    def told(self, rows, words, answer, n=100000):
        t, w = oracle.bytes_of(*rows), oracle.bytes_of(*words)
        begun = time.process_time()
        self.assertEqual(first(n, t, w), answer)
        self.assertLess(time.process_time() - begun, 20)

    def late(self, number):
        """Only the last word for the first light leaves the last one a word, and that word has this number."""
        rows = [".####", ".#...", ".####", ".####", "....#"]
        words = ["AAAAA"] * 40 + ["AAAAB"] + ["CCC"] * 31 + ["EE"] * 6
        return rows, words[:number] + ["BDDD"] + words[number + 1:]

    def test_a_filling_at_the_last_trial(self):
        rows, words = self.late(76)
        self.told(rows, words, [1, 40, 41, 76])
        self.told(rows, words, [-7], 99999)

    def test_a_filling_at_one_trial_too_many(self):
        rows, words = self.late(77)
        self.told(rows, words, [-7])
        self.told(rows, words, [-1], 100001)

    def test_none_at_the_last_trial(self):
        # The third light has no word: 100 words are tried in the first light, and behind each that stands.
        rows = ["....#", "#####", "...##", "#####", "....."]
        words = ["ABCD"] * 27 + ["ABC"] * 36 + ["AB"] * 37
        self.told(rows, words, [0])
        self.told(rows, words, [-7], 99999)
        self.told(rows, words[:-1] + ["ABC"], [-7])

    def test_far_more_than_there_may_be(self):
        bars = [".........", "#########"] * 4 + ["........."]
        self.told(bars[:8] + ["........#"], ["ABCDEFGHI"] * 200, [-7])
        self.told(["." * 9] * 9, ["A" * 8 + sign for sign in "ABCDEFGHIJKLMNOPQRSTUVWXYZ" * 7], [-7])
        self.told(["." * 9] * 9, ["A" * 9] * 17 + ["B" * 9] * 183, [-7])

    def test_the_most_lights_and_words(self):
        bars = [".........", "#########"] * 4 + ["........."]
        self.told(bars, ["ABCDEFGHI"] * 200, [1, 0, 1, 2, 3, 4], 15)
        self.told(["." * 9] * 9, ["A" * 9] * 200, [1, *range(18)], 18 * 19 // 2)
        self.told(["." * 9] * 9, ["A" * 9] * 200, [-7], 18 * 19 // 2 - 1)
        blocks = ["..#..#..#", "..#..#..#", "#########"] * 3
        self.told(blocks, ["AA"] * 200, [1, *range(36)], 36 * 37 // 2)
        self.told(blocks, ["AA"] * 35 + ["BBB"] * 165, [-7])


if __name__ == "__main__":
    unittest.main()
