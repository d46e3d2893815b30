"""Promise 8: count answers how many fillings there are, m if they're more; -7 where trials are too few."""

import time
import unittest

from crossfilldesk.lattices import count
from tests import oracle

MOST = 4294967295
RING = ["...", ".#.", "..."]
RING_WORDS = ["CAT", "CUB", "TUB", "BOB"]
BARS = ["...", "###", "..."]
NO_LIGHTS = (["##", "##"], ["#.", ".#"], ["A#", "#Z"], ["#" * 9] * 9)


class Count(unittest.TestCase):
    def told(self, rows, words, m, answer, n=100000):
        with self.subTest(rows=rows, words=words[:10], m=m, n=n):
            self.assertEqual(count(n, m, oracle.bytes_of(*rows), oracle.bytes_of(*words)), [answer])

    def least(self, rows, words, m, n, answer):
        """n trials are enough, and one less is too few; more change nothing."""
        self.told(rows, words, m, answer, n)
        if n > 1:
            self.told(rows, words, m, -7, n - 1)
            self.told(rows, words, m, -7, 1)
        if n < 100000:
            self.told(rows, words, m, answer, n + 1)
        self.told(rows, words, m, answer)

    def test_none(self):
        for m in (1, 2, 1000):
            self.told(RING, ["CAT"] * 3, m, 0)
            self.told(RING, [], m, 0, 1)
            self.told(["..", "##"], ["ABC"], m, 0)

    def test_one(self):
        for m in (1, 2, 1000):
            self.told(["..", "##"], ["AB"], m, 1)
            self.told(["..", "#."], ["AB", "CC", "BD"], m, 1)

    def test_several(self):
        self.told(RING, RING_WORDS, 1000, 2)
        self.told(["..", ".#"], ["AB", "CA", "BC", "AD", "EE"], 1000, 2)
        self.told(BARS, ["ABC", "BCA", "CAB"], 1000, 6)
        self.told(["..", ".."], ["AA"] * 4, 1000, 24)

    def test_a_word_told_twice_is_two_words(self):
        self.told(["..", "##"], ["AB", "AB"], 1000, 2)
        self.told(BARS, ["ABC", "ABC"], 1000, 2)
        self.told(BARS, ["ABC"], 1000, 0)

    def test_at_most_m(self):
        for m in range(1, 9):
            self.told(BARS, ["ABC", "BCA", "CAB"], m, min(m, 6))

    def test_no_lights(self):
        for rows in NO_LIGHTS:
            for words in ([], ["AB"], ["TO"] * 200):
                for n in (1, 100000):
                    for m in (1, 2, 1000):
                        self.told(rows, words, m, 1, n)

    def test_trials_where_all_are_counted(self):
        self.least(BARS, ["ABC", "BCA", "CAB"], 7, 3 + 3 * 3, 6)
        self.least(BARS, ["ABC", "BCA", "CAB"], 1000, 3 + 3 * 3, 6)
        self.least(["..", "##"], ["AB"], 2, 1, 1)
        self.least(["..", "##"], ["AB", "ABC"], 2, 2, 1)
        self.least(["..", "##"], ["ABC"] * 200, 1, 200, 0)
        self.least(RING, ["CAT"], 1, 1 + 1, 0)

    def test_trials_where_m_ends_it(self):
        # The last filling is found at the 11th trial, and the 12th would only be for a further one.
        three = ["ABC", "BCA", "CAB"]
        for m, n in ((1, 1 + 2), (2, 1 + 3), (3, 4 + 1 + 1), (4, 4 + 1 + 3), (5, 8 + 1 + 1), (6, 8 + 1 + 2)):
            self.least(BARS, three, m, n, m)
        self.least(RING, RING_WORDS, 1, 1 + 2 + 3 + 4, 1)
        self.least(["..", "##"], ["AB", "ABC"], 1, 1, 1)

    def test_scattered_lattices_and_words(self):
        ended = [0, 0]
        for rows, words, sizes in oracle.scattered_fillings(900):
            fillings = sizes[-1]
            for m in sorted({1, 2, len(fillings) - 1, len(fillings), len(fillings) + 1, 1000}):
                if m < 1:
                    continue
                if m <= len(fillings):
                    n = oracle.trials_up_to(sizes, words, fillings[m - 1])
                else:
                    n = oracle.all_trials(sizes, words)
                self.least(rows, words, m, max(n, 1), min(m, len(fillings)))
                ended[m <= len(fillings)] += 1
        self.assertGreater(min(ended), 400)


class Refused(unittest.TestCase):
    def test_a_faulty_lattice_comes_first(self):
        for n in (0, 1, 100000, MOST):
            for m in (0, 1, 1000, MOST):
                for w in ([], [10], oracle.bytes_of("AB"), [255] * 2100):
                    self.assertEqual(count(n, m, [], w), [-6, 0])
                    self.assertEqual(count(n, m, [46, 46, 10, 46, 46], w), [-6, 5])

    def test_faulty_words_come_next(self):
        for rows in (["..", ".."], ["##", "##"]):
            for n in (0, 1, 100000, MOST):
                for m in (0, 1, 1000, MOST):
                    self.assertEqual(count(n, m, oracle.bytes_of(*rows), [10]), [-9, 0])
                    self.assertEqual(count(n, m, oracle.bytes_of(*rows), oracle.bytes_of("AB", "C")), [-9, 4])

    def test_n_or_m_out_of_range_comes_before_too_few(self):
        for rows in (["..", ".."], ["##", "##"]):
            for words in ([], ["AB"], ["AA"] * 200):
                t, w = oracle.bytes_of(*rows), oracle.bytes_of(*words)
                for n in (0, 100001, 4294967294, MOST):
                    for m in (0, 1, 1000, 1001, MOST):
                        self.assertEqual(count(n, m, t, w), [-1])
                for n in (1, 3, 100000):
                    for m in (0, 1001, 1002, 100000, 4294967294, MOST):
                        self.assertEqual(count(n, m, t, w), [-1])
                    for m in (1, 999, 1000):
                        self.assertGreaterEqual(count(n, m, t, w)[0], -7)
                        self.assertNotEqual(count(n, m, t, w), [-1])


class Large(unittest.TestCase):
    """Many fillings, or very many trials."""

    def told(self, rows, words, m, answer, n=100000):
        t, w = oracle.bytes_of(*rows), oracle.bytes_of(*words)
        begun = time.process_time()
        self.assertEqual(count(n, m, t, w), [answer])
        self.assertLess(time.process_time() - begun, 20)

    def two(self, some, others):
        """Two lights that don't cross, with so many words for the one and for the other."""
        return ["....", "####", "...#"], ["ABCD"] * some + ["ABC"] * others

    def test_one_less_than_a_thousand(self):
        rows, words = self.two(27, 37)
        self.told(rows, words, 1000, 999, 64 + 27 * 64)
        self.told(rows, words, 1000, -7, 64 + 27 * 64 - 1)
        self.told(rows, words, 999, 999, 27 * 65)
        self.told(rows, words, 999, -7, 27 * 65 - 1)

    def test_a_thousand_just_so(self):
        rows, words = self.two(25, 40)
        self.told(rows, words, 1000, 1000, 25 * 66)
        self.told(rows, words, 1000, -7, 25 * 66 - 1)
        self.told(rows, words, 999, 999, 25 * 66 - 1)

    def test_one_more_than_a_thousand(self):
        rows, words = self.two(77, 13)
        self.told(rows, words, 1000, 1000, 77 * 91 - 1)
        self.told(rows, words, 1000, -7, 77 * 91 - 2)
        self.told(rows, words, 1, 1, 1 + 78)

    def test_far_more_than_a_thousand(self):
        # Each word of the first light leaves 199 fillings, at 201 trials: 1000 are 5 such and 5 more.
        words = ["ABC"] * 200
        self.told(BARS, words, 1000, 1000, 5 * 201 + 1 + 5)
        self.told(BARS, words, 1000, -7, 5 * 201 + 1 + 4)

    def test_none_at_the_last_trial(self):
        rows = ["....#", "#####", "...##", "#####", "....."]
        words = ["ABCD"] * 27 + ["ABC"] * 36 + ["AB"] * 37
        for m in (1, 1000):
            self.told(rows, words, m, 0)
            self.told(rows, words, m, -7, 99999)

    def test_at_the_last_trial_and_at_one_too_many(self):
        rows = [".####", ".#...", ".####", ".####", "....#"]
        words = ["AAAAA"] * 40 + ["AAAAB"] + ["CCC"] * 31 + ["EE"] * 4 + ["BDDD"] * 2
        self.told(rows, words, 1, 1)
        self.told(rows, words, 1, -7, 99999)
        self.told(rows, words, 2, -7)

    def test_far_more_trials_than_there_may_be(self):
        self.told(["." * 9] * 9, ["A" * 8 + sign for sign in "ABCDEFGHIJKLMNOPQRSTUVWXYZ" * 7], 1, -7)
        self.told(["." * 9] * 9, ["A" * 9] * 200, 1000, 1000)


if __name__ == "__main__":
    unittest.main()
