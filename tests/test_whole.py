"""What holds of the whole program: the calls agree with one another, and refuse in one order."""

import itertools
import unittest

from crossfilldesk.lattices import checked, count, cross, first, fits, judge, letters, lights, next_of, words
from tests import oracle

MOST = 4294967295


def fillings_of(t, w):
    """All of them, by first and next_of alone."""
    answer = first(100000, t, w)
    while answer[0] == 1:
        yield answer[1:]
        answer = next_of(100000, t, w, answer[1:])


def cells_of_lights(t):
    """Of each light its cells, by lights alone."""
    answer = lights(t)
    for k in range(answer[0]):
        number, way, r, c, length = answer[1 + 5 * k:6 + 5 * k]
        yield [(r, c + step) if way == 0 else (r + step, c) for step in range(length)]


class Agree(unittest.TestCase):
    def test_fillings_fit_and_their_letters_lead_back_to_them(self):
        twice = 0
        for rows, told, sizes in oracle.scattered_fillings(1500):
            t, w = oracle.bytes_of(*rows), oracle.bytes_of(*told)
            for filling in itertools.islice(fillings_of(t, w), 12):
                self.assertEqual(fits(t, w, filling), [1])
                filled = letters(t, w, filling)[1:]
                again = first(100000, filled, w)
                self.assertEqual(again[0], 1, (rows, told, filling))
                self.assertEqual([told[k] for k in again[1:]], [told[k] for k in filling])
                self.assertEqual(letters(filled, w, again[1:]), [len(filled), *filled])
                self.assertEqual(fits(filled, w, filling), [1])
                if len(set(told)) == len(told):
                    self.assertEqual(again[1:], filling)
                    self.assertEqual(count(100000, 1000, filled, w), [1])
                twice += again[1:] != filling
        self.assertGreater(twice, 10)

    def test_fits_of_every_list_just_the_fillings(self):
        some = 0
        for rows, told, sizes in oracle.scattered_fillings(1500):
            if not 0 < len(told) ** (len(sizes) - 1) <= 1000:
                continue
            t, w = oracle.bytes_of(*rows), oracle.bytes_of(*told)
            fit = [list(f) for f in itertools.product(range(len(told)), repeat=len(sizes) - 1)
                   if fits(t, w, list(f)) == [1]]
            self.assertEqual(fit, list(fillings_of(t, w)))
            some += len(fit)
        self.assertGreater(some, 500)

    def test_a_filled_lattice_is_the_same_but_for_its_locks(self):
        for rows, told, sizes in oracle.scattered_fillings(600):
            t, w = oracle.bytes_of(*rows), oracle.bytes_of(*told)
            for filling in sizes[-1][:2]:
                answer = letters(t, w, list(filling))
                filled = answer[1:]
                self.assertEqual(answer[0], len(t))
                self.assertEqual(judge(filled), judge(t))
                self.assertEqual(lights(filled), lights(t))
                line = len(rows[0]) + 1
                within = {r * line + c for cells in cells_of_lights(t) for r, c in cells}
                for place, (before, behind) in enumerate(zip(t, filled)):
                    if before != ord(".") or place not in within:
                        self.assertEqual(before, behind)
                    else:
                        self.assertIn(behind, range(65, 91))

    def test_one_letter_at_each_cell(self):
        for rows, told, sizes in oracle.scattered_fillings(600):
            t, w = oracle.bytes_of(*rows), oracle.bytes_of(*told)
            for filling in sizes[-1][:2]:
                filled = letters(t, w, list(filling))[1:]
                for cells, k in zip(cells_of_lights(t), filling):
                    there = "".join(chr(filled[r * (len(rows[0]) + 1) + c]) for r, c in cells)
                    self.assertEqual(there, told[k])

    def test_cross_and_checked_agree_with_lights(self):
        for rows in oracle.scattered_lattices(60):
            t = oracle.bytes_of(*rows)
            cells = list(cells_of_lights(t))
            for r, row in enumerate(rows):
                for c, sign in enumerate(row):
                    within = [k for k, light in enumerate(cells) if (r, c) in light]
                    self.assertEqual(checked(r, c, t), [-4] if sign == "#" else [len(within), *within])
                    if len(within) == 2:
                        i, j = within
                        self.assertEqual(cross(i, j, t), [1, cells[i].index((r, c)), cells[j].index((r, c))])
            pairs = sum(cross(i, j, t)[0] for i in range(len(cells)) for j in range(len(cells)))
            self.assertEqual(pairs, 2 * sum(checked(r, c, t)[0] == 2 for r in range(9) for c in range(9)))

    def test_texts_and_lattices_are_one_to_one(self):
        # What a lattice without lights is comes back as the text that it was read from.
        for signs in itertools.product("#.AZ", repeat=6):
            rows = ["".join(signs[:3]), "".join(signs[3:])]
            t = oracle.bytes_of(*rows)
            if lights(t) == [0]:
                self.assertEqual(letters(t, [], []), [len(t), *t])

    def test_words_are_what_fits_takes_them_for(self):
        told = ["AB", "ABC", "ABCDEFGHI", "ABC", "ABCD"]
        w = oracle.bytes_of(*told)
        lengths = words(w)[1:]
        for width in range(2, 10):
            t = oracle.bytes_of("." * width, "#" * width)
            fit = [k for k in range(len(told) + 1) if fits(t, w, [k]) == [1]]
            self.assertEqual(fit, [k for k, length in enumerate(lengths) if length == width])
            self.assertEqual(count(100, 100, t, w), [len(fit)])


class Trials(unittest.TestCase):
    def test_more_never_change_what_was_told(self):
        for rows, told, sizes in oracle.scattered_fillings(250):
            t, w = oracle.bytes_of(*rows), oracle.bytes_of(*told)
            a = list(sizes[-1][0]) if sizes[-1] else [0] * (len(sizes) - 1)
            top = oracle.all_trials(sizes, told) + 2
            for call in (lambda n: first(n, t, w), lambda n: next_of(n, t, w, a), lambda n: count(n, 3, t, w),
                         lambda n: count(n, 1000, t, w)):
                least = None
                for n in sorted({1, 2, 3, 5, 8, 13, 40, 100, top // 2 + 1, max(top - 3, 1), top - 1, top, 100000}):
                    answer = call(n)
                    if least is None and answer != [-7]:
                        least = answer
                    if least is not None:
                        self.assertEqual(answer, least, (rows, told, n))
                self.assertIsNotNone(least)


class Refusals(unittest.TestCase):
    """Each call with all that may be refused, in all mixtures: the one told first is answered."""

    # Of each: what is handed in, and what it is refused with, or None.
    texts = ((oracle.bytes_of("..", ".#"), None), ([], [-6, 0]), ([46, 46, 10, 46, 10], [-6, 4]), ([46] * 100, [-6, 9]))
    word_texts = ((oracle.bytes_of("AB", "AC"), None), ([10], [-9, 0]), (oracle.bytes_of("AB", "C"), [-9, 4]),
                  ([65] * 2100, [-9, 9]))
    trials = ((100000, None), (3, None), (0, [-1]), (100001, [-1]), (MOST, [-1]))
    counted = ((1000, None), (1, None), (0, [-1]), (1001, [-1]), (MOST, [-1]))
    some_lights = (((0, 1), None), ((0, 2), [-4]), ((2, 1), [-4]), ((MOST, MOST), [-4]))
    some_cells = (((0, 1), None), ((1, 1), [-4]), ((2, 0), [-4]), ((0, 2), [-4]), ((MOST, MOST), [-4]))
    behind = (([0, 0], None), ([], [-4]), ([0], [-4]), ([0, 0, 0], [-4]), ([MOST] * 200, [-4]))
    told = (([0, 1], None), ([0], [-4]), ([0, 2], [-4]), ([0, 0], [-4]), ([], [-4]), ([MOST] * 200, [-4]))

    def in_order(self, call, *kinds):
        for mixture in itertools.product(*kinds):
            given = [part for part, refusal in mixture]
            due = [refusal for part, refusal in mixture if refusal is not None]
            with self.subTest(given=given):
                if due:
                    self.assertEqual(call(*given), due[0])
                else:
                    self.assertGreaterEqual(call(*given)[0], 0)

    def test_judge(self):
        self.in_order(judge, self.texts)

    def test_lights(self):
        self.in_order(lights, self.texts)

    def test_cross(self):
        self.in_order(lambda t, both: cross(*both, t), self.texts, self.some_lights)

    def test_checked(self):
        self.in_order(lambda t, cell: checked(*cell, t), self.texts, self.some_cells)

    def test_words(self):
        self.in_order(words, self.word_texts)

    def test_first(self):
        self.in_order(lambda t, w, n: first(n, t, w), self.texts, self.word_texts, self.trials)

    def test_next_of(self):
        self.in_order(lambda t, w, n, a: next_of(n, t, w, a), self.texts, self.word_texts, self.trials, self.behind)

    def test_count(self):
        self.in_order(lambda t, w, n, m: count(n, m, t, w), self.texts, self.word_texts,
                      self.trials[:1] + self.trials[2:], self.counted)

    def test_fits(self):
        self.in_order(fits, self.texts, self.word_texts, [(f, None) for f, refusal in self.told])

    def test_letters(self):
        self.in_order(letters, self.texts, self.word_texts, self.told)

    def test_too_few_trials_come_last(self):
        t, w = oracle.bytes_of("..", ".#"), oracle.bytes_of("AB", "AC")
        self.assertEqual(first(2, t, w), [-7])
        self.assertEqual(next_of(2, t, w, [0, 0]), [-7])
        self.assertEqual(count(2, 1, t, w), [-7])
        self.assertEqual(next_of(2, t, w, [0]), [-4])
        self.assertEqual(count(2, 0, t, w), [-1])


if __name__ == "__main__":
    unittest.main()
