"""What holds of every call: it keeps nothing, changes nothing, and gives back a list of whole numbers."""

import inspect
import unittest

from crossfilldesk import lattices
from crossfilldesk.lattices import checked, count, cross, first, fits, judge, letters, lights, next_of, words
from tests import oracle

MOST = 4294967295


def changed(self, *given, **named):
    raise AssertionError("what was handed in is changed")


class Guarded(list):
    """A list that tells if it is changed, be it for a while alone."""

    append = extend = insert = pop = remove = clear = sort = reverse = changed
    __setitem__ = __delitem__ = __iadd__ = __imul__ = changed


def texts():
    for rows in (["..", ".."], ["##", "##"], ["#.#", "...", "#.#"], ["A.#", "...", "#.Z"],
                 ["#.", "##"], [".#.", ".#."], ["###", "#.#", "###"], ["###", "...", "###"], ["." * 9] * 9):
        yield oracle.bytes_of(*rows)
    yield []
    yield [46, 46, 10]
    yield [46] * 100
    yield list(range(100))
    yield [255] * 100


def word_texts():
    for told in ([], ["AB", "BA", "CAB"], ["AA"] * 4, ["AAA", "AAA"], ["A" * 9] * 200, ["ABC", "D"]):
        yield oracle.bytes_of(*told)
    yield [65, 66]
    yield [0] * 2100


def number_lists():
    yield from ([], [0], [1, 0], [0, 1, 2, 3], [0, 0, 0, 0], [MOST] * 4, list(range(18)), [0] * 200)


def cases():
    """Each call with what is handed in, in every kind of answer."""
    for t in texts():
        yield judge, (t,)
        yield lights, (t,)
        for one, other in ((0, 0), (0, 1), (1, 0), (1, 1), (2, 0), (MOST, 0), (0, MOST)):
            yield cross, (one, other, t)
            yield checked, (one, other, t)
        for w in word_texts():
            for n in (0, 1, 1000, 100001, MOST):
                yield first, (n, t, w)
                for m in (0, 1, 1000, 1001, MOST):
                    yield count, (n, m, t, w)
                for a in number_lists():
                    yield next_of, (n, t, w, a)
            for f in number_lists():
                yield fits, (t, w, f)
                yield letters, (t, w, f)
    for w in word_texts():
        yield words, (w,)


def copied(given, kind=list):
    return [kind(part) if isinstance(part, list) else part for part in given]


class Calls(unittest.TestCase):
    def test_names_and_arguments(self):
        for name, arguments in (("judge", "t"), ("lights", "t"), ("cross", "i j t"), ("checked", "r c t"),
                                ("words", "w"), ("first", "n t w"), ("next_of", "n t w a"), ("count", "n m t w"),
                                ("fits", "t w f"), ("letters", "t w f")):
            call = getattr(lattices, name)
            self.assertEqual(list(inspect.signature(call).parameters), arguments.split(), name)

    def test_what_is_handed_in_stays(self):
        for call, given in cases():
            handed = copied(given)
            call(*handed)
            self.assertEqual(handed, list(given), call.__name__)
            call(*copied(given, Guarded))

    def test_a_second_call_answers_the_same(self):
        told = [call(*given) for call, given in cases()]
        again = [call(*given) for call, given in cases()]
        self.assertEqual(told, again)

    def test_an_answer_is_the_caller_s_own(self):
        for call, given in cases():
            answer = call(*given)
            kept = list(answer)
            answer.clear()
            self.assertEqual(call(*given), kept, (call.__name__, given))

    def test_answers_are_lists_of_whole_numbers(self):
        for call, given in cases():
            answer = call(*given)
            self.assertIs(type(answer), list)
            self.assertEqual({type(number) for number in answer}, {int}, (call.__name__, given))


if __name__ == "__main__":
    unittest.main()
