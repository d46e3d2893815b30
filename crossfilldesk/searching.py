"""The search that goes through all fillings in order, word by word, with so many trials at most."""

from crossfilldesk.slots import NOTHING_WRONG
from crossfilldesk.slots import wrong_with


# A word is to be tried, and as many as may be were.
class TooFewTrials(Exception):
    pass


# standing holds the numbers of the words in the lights so far; number is the word to be tried in the next one.
class Search:
    def __init__(self, slots, words, trials):
        self.slots = slots
        self.words = words
        self.trials = trials
        self.standing = []
        self.number = 0
        self.begun = False

    # The filling that comes next, or None where all have been gone through.
    def following(self):
        if self.begun and not self.step_back():
            return None
        self.begun = True
        while len(self.standing) < len(self.slots):
            if self.number < len(self.words):
                self.try_word()
            elif not self.step_back():
                return None
        return list(self.standing)

    # Says whether there was a light to go back to.
    def step_back(self):
        if len(self.standing) == 0:
            return False
        self.number = self.standing.pop() + 1
        return True

    def try_word(self):
        if self.trials == 0:
            raise TooFewTrials()
        self.trials = self.trials - 1
        if wrong_with(self.slots, self.words, self.standing, self.number) == NOTHING_WRONG:
            self.standing.append(self.number)
            self.number = 0
        else:
            self.number = self.number + 1


def is_behind(filling, numbers):
    for number, other in zip(filling, numbers):
        if number != other:
            return number > other
    return False


def first_behind(search, numbers):
    filling = search.following()
    while filling is not None and not is_behind(filling, numbers):
        filling = search.following()
    return filling


# It stops at the last one that is counted: whether there are more would change nothing, but cost trials.
def how_many(search, most):
    found = 0
    while found < most and search.following() is not None:
        found = found + 1
    return found
