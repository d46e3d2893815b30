"""What holds of every call: it keeps nothing, changes nothing, and gives back a list of whole numbers."""

import unittest

from crossfilldesk.lattices import judge, lights
from tests import oracle

CALLS = (judge, lights)


def changed(self, *given, **named):
    raise AssertionError("what was handed in is changed")


class Guarded(list):
    """A list that tells if it is changed, be it for a while alone."""

    append = extend = insert = pop = remove = clear = sort = reverse = changed
    __setitem__ = __delitem__ = __iadd__ = __imul__ = changed


def texts():
    for rows in (["..", ".."], ["##", "##"], ["#.#", "...", "#.#"], ["A.#", "...", "#.Z"],
                 ["#.", "##"], [".#.", ".#."], ["###", "#.#", "###"], ["###", "...", "###"], ["." * 9] * 9):
        yield oracle.bytes_of(*rows)
    yield []
    yield [46, 46, 10]
    yield [46] * 100
    yield list(range(100))
    yield [255] * 100


class Calls(unittest.TestCase):
    def test_what_is_handed_in_stays(self):
        for t in texts():
            for call in CALLS:
                given = list(t)
                call(given)
                self.assertEqual(given, t)
                call(Guarded(t))

    def test_a_second_call_answers_the_same(self):
        told = [[call(t) for call in CALLS] for t in texts()]
        again = [[call(t) for call in CALLS] for t in texts()]
        self.assertEqual(told, again)

    def test_an_answer_is_the_caller_s_own(self):
        for t in texts():
            for call in CALLS:
                answer = call(t)
                kept = list(answer)
                answer.clear()
                self.assertEqual(call(t), kept)

    def test_answers_are_lists_of_whole_numbers(self):
        for t in texts():
            for call in CALLS:
                answer = call(t)
                self.assertIs(type(answer), list)
                self.assertEqual({type(number) for number in answer}, {int})


if __name__ == "__main__":
    unittest.main()
