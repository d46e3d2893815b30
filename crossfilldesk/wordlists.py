"""The text of words: its first fault."""

from crossfilldesk.texts import LINE_END
from crossfilldesk.texts import is_letter

LEAST_LETTERS = 2
MOST_LETTERS = 9
MOST_WORDS = 200


def may_follow(byte, whole, letters):
    if whole == MOST_WORDS:
        return False
    if byte == LINE_END:
        return letters >= LEAST_LETTERS
    return is_letter(byte) and letters < MOST_LETTERS


# None stands for no fault, since 0 is a place.
def first_fault_of_words(w):
    whole = 0
    letters = 0
    for place, byte in enumerate(w):
        if not may_follow(byte, whole, letters):
            return place
        if byte == LINE_END:
            whole = whole + 1
            letters = 0
        else:
            letters = letters + 1
    if letters > 0:
        return len(w)
    return None
