"""Texts that are no lattice's are refused by each call, with the first fault's place."""

import unittest

from crossfilldesk.lattices import checked, count, cross, first, fits, judge, letters, lights, next_of
from tests import oracle

MOST = 4294967295

# What else is handed in stands here: some of it would be refused too, but later.
CALLS = {
    "judge": judge,
    "lights": lights,
    "cross": lambda t: cross(0, 1, t),
    "cross of no lights": lambda t: cross(MOST, MOST, t),
    "checked": lambda t: checked(0, 0, t),
    "checked of no cell": lambda t: checked(MOST, MOST, t),
    "first": lambda t: first(100, t, [65, 65, 10]),
    "first of no words, with no trials": lambda t: first(0, t, [0]),
    "next_of": lambda t: next_of(100, t, [65, 65, 10], [0]),
    "next_of of no words, with no trials": lambda t: next_of(0, t, [0], []),
    "count": lambda t: count(100, 10, t, [65, 65, 10]),
    "count of no words, with no trials": lambda t: count(0, 0, t, [0]),
    "fits": lambda t: fits(t, [65, 65, 10], [0]),
    "fits of no words": lambda t: fits(t, [0], [MOST]),
    "letters": lambda t: letters(t, [65, 65, 10], [0]),
    "letters of no words": lambda t: letters(t, [0], [MOST]),
}


def listed(text):
    return [ord(sign) for sign in text]


class FirstFault(unittest.TestCase):
    def refused(self, text, place):
        for name, call in CALLS.items():
            with self.subTest(call=name, text=text):
                self.assertEqual(call(listed(text)), [-6, place])

    def taken(self, text):
        for name, call in CALLS.items():
            with self.subTest(call=name, text=text):
                self.assertNotEqual(call(listed(text))[0], -6)

    def test_empty_text(self):
        self.refused("", 0)

    def test_ends_too_early(self):
        for text in (".", "..", ".........", "..\n", "...\n..", "...\n...", "...\n...\n.", "...\n...\n...",
                     ".........\n.........", ".........\n" * 8 + "........."):
            self.refused(text, len(text))

    def test_one_row_alone(self):
        self.refused("...\n", 4)
        self.refused(".........\n", 10)

    def test_row_of_one_cell(self):
        self.refused(".\n.\n", 1)
        self.refused("#\n", 1)

    def test_first_row_of_more_than_nine(self):
        self.refused("..........\n..........\n", 9)
        self.refused("#" * 100, 9)

    def test_row_shorter_than_the_first(self):
        self.refused("...\n..\n", 6)
        self.refused("...\n...\n.\n", 9)
        self.refused(".........\n........\n", 18)

    def test_row_longer_than_the_first(self):
        self.refused("...\n....\n", 7)
        self.refused("..\n..\n...\n", 8)
        self.refused("..\n.........\n", 5)

    def test_strange_bytes(self):
        usual = set(listed("#.ABCDEFGHIJKLMNOPQRSTUVWXYZ"))
        for byte in range(256):
            for before in ("", "...\n.", "...\n...\n"):
                text = listed(before) + [byte] + listed("..\n...\n")
                fault = oracle.first_fault(text)
                for name, call in CALLS.items():
                    with self.subTest(byte=byte, before=before, call=name):
                        if byte not in usual:
                            self.assertEqual(fault, len(before))
                            self.assertEqual(call(text), [-6, len(before)])
                        elif fault is None:
                            self.assertNotEqual(call(text)[0], -6)

    def test_line_end_is_ten_alone(self):
        self.refused("...\r\n...\r\n", 3)
        self.refused("...\r...\r", 3)

    def test_neighbours_of_the_letters(self):
        self.refused("@..\n...\n", 0)
        self.refused(".[.\n...\n", 1)
        self.refused("...\na..\n", 4)
        self.refused("...\n..z\n", 6)
        self.taken("A..\n..Z\n")

    def test_tenth_row(self):
        self.taken("..\n" * 9)
        self.refused("..\n" * 10, 27)
        self.refused(".........\n" * 10, 90)
        self.refused(".........\n" * 9 + "#", 90)

    def test_empty_row(self):
        self.refused("\n", 0)
        self.refused("\n..\n..\n", 0)
        self.refused("...\n\n...\n", 4)
        self.refused("...\n...\n\n", 8)

    def test_more_behind_the_last_row(self):
        self.refused("...\n...\n ", 8)
        self.refused("...\n...\n\0...\n", 8)
        self.refused("..\n" * 9 + "\n", 27)
        self.refused(".........\n" * 9 + "\n", 90)

    def test_first_of_several_faults(self):
        self.refused("..x\n...y\n", 2)
        self.refused("...\n..\n.x.\n", 6)

    def test_every_short_text(self):
        texts = [[]]
        for size in range(8):
            for t in texts:
                self.same_fault(t)
            texts = [t + [byte] for t in texts for byte in (10, 35, 65)]

    def test_every_cut_and_every_swap(self):
        for rows in (["..", "##"], ["...", "#A#", "...", "..Z"], ["........."] * 9, ["##"] * 9):
            t = oracle.bytes_of(*rows)
            for place in range(len(t)):
                self.same_fault(t[:place])
                self.same_fault(t[:place] + t[place + 1:])
                for byte in (0, 10, 35, 46, 64, 65, 90, 91, 255):
                    self.same_fault(t[:place] + [byte] + t[place + 1:])
                    self.same_fault(t[:place] + [byte] + t[place:])

    def test_any_bytes(self):
        draws = oracle.spread(400 * 102, 2 ** 30)
        for step in range(400):
            size = next(draws) % 101
            t = [next(draws) % 256 for place in range(size)]
            self.same_fault(t)
            self.same_fault([(10, 35, 46, 46, 77)[byte % 5] for byte in t])

    def same_fault(self, t):
        fault = oracle.first_fault(t)
        for name, call in CALLS.items():
            answer = call(t)
            if fault is None:
                self.assertNotEqual(answer[0], -6, (name, t))
            else:
                self.assertEqual(answer, [-6, fault], (name, t))


if __name__ == "__main__":
    unittest.main()
