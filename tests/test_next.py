"""Promise 7: next_of answers 1 and the first filling behind a, 0 where there's none, -7 where trials are too few."""

import time
import unittest

from crossfilldesk.lattices import count, first, next_of
from tests import oracle

MOST = 4294967295
RING = ["...", ".#.", "..."]
RING_WORDS = ["CAT", "CUB", "TUB", "BOB"]
BARS = ["...", "###", "..."]
NO_LIGHTS = (["##", "##"], ["#.", ".#"], ["A#", "#Z"], ["#" * 9] * 9)


class Next(unittest.TestCase):
    def told(self, rows, words, a, answer, n=100000):
        with self.subTest(rows=rows, words=words[:10], a=a, n=n):
            self.assertEqual(next_of(n, oracle.bytes_of(*rows), oracle.bytes_of(*words), a), answer)

    def least(self, rows, words, a, n, answer):
        """n trials are enough, and one less is too few; more change nothing."""
        self.told(rows, words, a, answer, n)
        if n > 1:
            self.told(rows, words, a, [-7], n - 1)
            self.told(rows, words, a, [-7], 1)
        if n < 100000:
            self.told(rows, words, a, answer, n + 1)
        self.told(rows, words, a, answer)

    def test_behind_a_filling(self):
        self.told(RING, RING_WORDS, [0, 1, 2, 3], [1, 1, 0, 3, 2])
        self.told(BARS, ["ABC", "BCA", "CAB"], [0, 1], [1, 0, 2])
        self.told(BARS, ["ABC", "BCA", "CAB"], [0, 2], [1, 1, 0])
        self.told(BARS, ["ABC", "BCA", "CAB"], [2, 0], [1, 2, 1])

    def test_behind_the_last(self):
        self.told(RING, RING_WORDS, [1, 0, 3, 2], [0])
        self.told(BARS, ["ABC", "BCA", "CAB"], [2, 1], [0])
        self.told(["..", "##"], ["AB"], [0], [0])

    def test_from_before_the_first(self):
        self.told(RING, RING_WORDS, [0, 0, 0, 0], [1, 0, 1, 2, 3])
        self.told(RING, RING_WORDS, [0, 1, 2, 2], [1, 0, 1, 2, 3])
        self.told(BARS, ["AB", "ABC", "BCA"], [0, MOST], [1, 1, 2])
        self.told(["..", "##"], ["ABC", "AB"], [0], [1, 1])

    def test_behind_numbers_that_are_no_filling(self):
        self.told(RING, RING_WORDS, [0, 1, 2, 4], [1, 1, 0, 3, 2])
        self.told(RING, RING_WORDS, [0, 1, 3, 0], [1, 1, 0, 3, 2])
        self.told(RING, RING_WORDS, [0, 1, 2, MOST], [1, 1, 0, 3, 2])
        self.told(RING, RING_WORDS, [0, MOST, MOST, MOST], [1, 1, 0, 3, 2])
        self.told(RING, RING_WORDS, [1, 0, 3, 1], [1, 1, 0, 3, 2])
        self.told(RING, RING_WORDS, [1, 0, 3, 3], [0])
        self.told(RING, RING_WORDS, [2, 0, 0, 0], [0])
        self.told(RING, RING_WORDS, [MOST, 0, 0, 0], [0])
        self.told(RING, RING_WORDS, [MOST] * 4, [0])

    def test_a_number_told_twice(self):
        self.told(BARS, ["ABC", "BCA", "CAB"], [0, 0], [1, 0, 1])
        self.told(BARS, ["ABC", "BCA", "CAB"], [1, 1], [1, 1, 2])
        self.told(BARS, ["ABC", "BCA", "CAB"], [2, 2], [0])

    def test_the_first_light_that_differs_decides(self):
        # Neither the sum of the numbers nor a later light does.
        self.told(BARS, ["ABC"] * 4, [1, 3], [1, 2, 0])
        self.told(BARS, ["ABC"] * 4, [1, 100], [1, 2, 0])
        self.told(BARS, ["ABC"] * 4, [3, 0], [1, 3, 1])

    def test_there_are_no_fillings(self):
        self.told(RING, [], [0, 0, 0, 0], [0], 1)
        self.told(RING, ["CAT"] * 3, [0, 0, 0, 0], [0])
        self.told(["..", "##"], ["ABC"], [0], [0])

    def test_no_lights(self):
        for rows in NO_LIGHTS:
            for words in ([], ["AB"], ["TO"] * 200):
                for n in (1, 100000):
                    self.told(rows, words, [], [0], n)

    def test_trials_are_counted_from_the_first_filling_on(self):
        self.least(RING, RING_WORDS, [0, 0, 0, 0], 1 + 2 + 3 + 4, [1, 0, 1, 2, 3])
        self.least(BARS, ["ABC", "BCA", "CAB"], [0, 0], 1 + 2, [1, 0, 1])
        self.least(BARS, ["ABC", "BCA", "CAB"], [0, 1], 1 + 3, [1, 0, 2])
        self.least(BARS, ["ABC", "BCA", "CAB"], [0, 2], 1 + 3 + 1 + 1, [1, 1, 0])
        self.least(BARS, ["ABC", "BCA", "CAB"], [1, 2], 1 + 3 + 1 + 3 + 1 + 1, [1, 2, 0])

    def test_trials_where_there_is_none(self):
        self.least(BARS, ["ABC", "BCA", "CAB"], [2, 1], 3 + 3 * 3, [0])
        self.least(BARS, ["ABC", "BCA", "CAB"], [MOST, MOST], 3 + 3 * 3, [0])
        self.least(["..", "##"], ["AB"] * 200, [199], 200, [0])
        self.least(["..", "##"], ["AB"], [0], 1, [0])

    def test_one_by_one_through_all(self):
        for rows, words, sizes in oracle.scattered_fillings(600):
            t, w = oracle.bytes_of(*rows), oracle.bytes_of(*words)
            went = []
            answer = first(100000, t, w)
            while answer[0] == 1:
                went.append(tuple(answer[1:]))
                answer = next_of(100000, t, w, answer[1:])
            self.assertEqual(answer, [0])
            self.assertEqual(went, sizes[-1], (rows, words))
            self.assertEqual(count(100000, 1000, t, w), [len(went)], (rows, words))

    def test_scattered_lattices_words_and_numbers(self):
        draws = oracle.spread(100000, 2 ** 30)
        told = [0, 0]
        for rows, words, sizes in oracle.scattered_fillings(600):
            for step in range(4):
                a = tuple(next(draws) % (len(words) + 2) for light in sizes[1:])
                if step > 1 and sizes[-1]:
                    a = sizes[-1][next(draws) % len(sizes[-1])]
                    a = a[:-1] + (a[-1] + step - 2,) if a else a
                behind = [filling for filling in sizes[-1] if filling > a]
                if behind:
                    n = oracle.trials_up_to(sizes, words, behind[0])
                    self.least(rows, words, list(a), n, [1, *behind[0]])
                else:
                    self.least(rows, words, list(a), max(oracle.all_trials(sizes, words), 1), [0])
                told[bool(behind)] += 1
        self.assertGreater(min(told), 200)


class Refused(unittest.TestCase):
    def test_a_faulty_lattice_comes_first(self):
        for n in (0, 1, 100000, 100001, MOST):
            for w in ([], [10], oracle.bytes_of("AB"), [255] * 2100):
                for a in ([], [0], [MOST] * 200):
                    self.assertEqual(next_of(n, [], w, a), [-6, 0])
                    self.assertEqual(next_of(n, [46, 46, 10, 46, 46], w, a), [-6, 5])

    def test_faulty_words_come_next(self):
        for rows in (["..", ".."], ["##", "##"]):
            for n in (0, 1, 100000, 100001, MOST):
                for a in ([], [0], [0, 0, 0, 0], [MOST] * 200):
                    self.assertEqual(next_of(n, oracle.bytes_of(*rows), [10], a), [-9, 0])
                    self.assertEqual(next_of(n, oracle.bytes_of(*rows), oracle.bytes_of("AB", "C"), a), [-9, 4])

    def test_trials_out_of_range_come_next(self):
        for rows in (["..", ".."], ["##", "##"]):
            for words in ([], ["AB"], ["AA"] * 200):
                for a in ([], [0], [0, 0, 0, 0], [0, 0, 0, 0, 0], [MOST] * 200):
                    for n in (0, 100001, 100002, 4294967294, MOST):
                        answer = next_of(n, oracle.bytes_of(*rows), oracle.bytes_of(*words), a)
                        self.assertEqual(answer, [-1])

    def test_not_as_many_numbers_as_lights_comes_before_too_few(self):
        t = oracle.bytes_of(*RING)
        for words in ([], ["AB"], RING_WORDS, ["AAA"] * 200):
            for a in ([], [0], [0, 1, 2], [0, 1, 2, 3, 4], [0] * 8, [MOST] * 199, [0] * 200):
                for n in (1, 9, 100000):
                    self.assertEqual(next_of(n, t, oracle.bytes_of(*words), a), [-4])
        self.assertEqual(next_of(9, t, oracle.bytes_of(*RING_WORDS), [0, 0, 0, 0]), [-7])

    def test_numbers_where_there_are_no_lights(self):
        for rows in NO_LIGHTS:
            for a in ([0], [MOST], [0] * 200):
                for n in (1, 100000):
                    self.assertEqual(next_of(n, oracle.bytes_of(*rows), [], a), [-4])


class Large(unittest.TestCase):
    """Searches of very many trials."""

    def told(self, rows, words, a, answer, n=100000):
        t, w = oracle.bytes_of(*rows), oracle.bytes_of(*words)
        begun = time.process_time()
        self.assertEqual(next_of(n, t, w, a), answer)
        self.assertLess(time.process_time() - begun, 20)

    def test_two_hundred_words_in_two_lights(self):
        # Behind each word of the first light are 200 trials in the second, so each costs 201.
        words = ["ABC"] * 200
        self.told(BARS, words, [198, 199], [1, 199, 0], 199 * 201 + 2)
        self.told(BARS, words, [198, 199], [-7], 199 * 201 + 1)
        self.told(BARS, words, [199, 197], [1, 199, 198], 200 * 201 - 1)
        self.told(BARS, words, [199, 197], [-7], 200 * 201 - 2)
        self.told(BARS, words, [199, 198], [0], 200 * 201)
        self.told(BARS, words, [199, 198], [-7], 200 * 201 - 1)

    def test_at_the_last_trial_and_at_one_too_many(self):
        rows = [".####", ".#...", ".####", ".####", "....#"]
        words = ["AAAAA"] * 40 + ["AAAAB"] + ["CCC"] * 31 + ["EE"] * 4 + ["BDDD"] * 2
        self.told(rows, words, [40, 41, 75], [1, 40, 41, 76])
        self.told(rows, words, [0, 0, 0], [-7], 99999)
        self.told(rows, words, [40, 41, 76], [-7])

    def test_none_at_the_last_trial(self):
        rows = ["....#", "#####", "...##", "#####", "....."]
        words = ["ABCD"] * 27 + ["ABC"] * 36 + ["AB"] * 37
        self.told(rows, words, [0, 0, 0], [0])
        self.told(rows, words, [MOST, MOST, MOST], [0])
        self.told(rows, words, [MOST, MOST, MOST], [-7], 99999)

    def test_far_more_than_there_may_be(self):
        rows, words = ["." * 9] * 9, ["A" * 9] * 200
        # The last light's words that are left, then one in the light before it, then the last light's up to 16.
        n = 18 * 19 // 2 + 182 + 1 + 17
        self.told(rows, words, [*range(17), 199], [1, *range(16), 17, 16], n)
        self.told(rows, words, [*range(17), 199], [-7], n - 1)
        self.told(rows, words, [1] + [0] * 17, [-7])
        self.told(rows, words, [MOST] * 18, [-7])


if __name__ == "__main__":
    unittest.main()
