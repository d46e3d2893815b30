"""What calls refuse: the numbers of the refusals, and those answers that several calls share, or None."""

from crossfilldesk.texts import first_fault
from crossfilldesk.wordlists import first_fault_of_words

NO_LATTICE = -6
NO_WORDS = -9
OUT_OF_RANGE = -1
NO_SUCH = -4
TOO_FEW = -7

MOST_TRIALS = 100000
MOST_COUNTED = 1000


def refused_lattice(t):
    fault = first_fault(t)
    if fault is None:
        return None
    return [NO_LATTICE, fault]


def refused_words(w):
    fault = first_fault_of_words(w)
    if fault is None:
        return None
    return [NO_WORDS, fault]


def refused_texts(t, w):
    refusal = refused_lattice(t)
    if refusal is not None:
        return refusal
    return refused_words(w)


def refused_search(n, t, w):
    refusal = refused_texts(t, w)
    if refusal is not None:
        return refusal
    if n == 0 or n > MOST_TRIALS:
        return [OUT_OF_RANGE]
    return None


def refused_count(n, m, t, w):
    refusal = refused_search(n, t, w)
    if refusal is not None:
        return refusal
    if m == 0 or m > MOST_COUNTED:
        return [OUT_OF_RANGE]
    return None
