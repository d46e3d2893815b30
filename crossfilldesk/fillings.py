"""Numbers told for a filling: what is wrong with them first, and the lattice's text with a filling's letters."""

from crossfilldesk.slots import NOTHING_WRONG
from crossfilldesk.slots import wrong_with
from crossfilldesk.texts import LINE_END

NOT_AS_MANY = 1


# The kind and how many or the light; None where the numbers are a filling.
def first_wrong(slots, words, numbers):
    if len(numbers) != len(slots):
        return [NOT_AS_MANY, len(numbers)]
    for light, number in enumerate(numbers):
        kind = wrong_with(slots, words, numbers[:light], number)
        if kind != NOTHING_WRONG:
            return [kind, light]
    return None


# Lights that cross have the same letter there, so it doesn't matter which of them is written last.
def lettered(t, slots, words, filling):
    text = list(t)
    line = t.index(LINE_END) + 1
    for slot, number in zip(slots, filling):
        for cell, letter in zip(slot.cells, words[number]):
            text[cell[0] * line + cell[1]] = letter
    return text
