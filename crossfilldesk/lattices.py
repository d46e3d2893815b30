"""The calls: each takes lists of bytes and numbers, and gives its answer as one list of numbers."""

from crossfilldesk.cells import is_white
from crossfilldesk.fillings import first_wrong
from crossfilldesk.fillings import lettered
from crossfilldesk.judging import judgement
from crossfilldesk.refusals import NO_SUCH
from crossfilldesk.refusals import TOO_FEW
from crossfilldesk.refusals import refused_count
from crossfilldesk.refusals import refused_lattice
from crossfilldesk.refusals import refused_search
from crossfilldesk.refusals import refused_texts
from crossfilldesk.refusals import refused_words
from crossfilldesk.runs import crossing
from crossfilldesk.runs import lights_by_cell
from crossfilldesk.runs import lights_of
from crossfilldesk.searching import Search
from crossfilldesk.searching import TooFewTrials
from crossfilldesk.searching import first_behind
from crossfilldesk.searching import how_many
from crossfilldesk.slots import slots_of
from crossfilldesk.texts import lines_of


def judge(t):
    refusal = refused_lattice(t)
    if refusal is not None:
        return refusal
    return judgement(lines_of(t))


def lights(t):
    refusal = refused_lattice(t)
    if refusal is not None:
        return refusal
    found = lights_of(lines_of(t))
    answer = [len(found)]
    for light in found:
        start = light.cells[0]
        answer.extend([light.number, light.way, start[0], start[1], len(light.cells)])
    return answer


def cross(i, j, t):
    refusal = refused_lattice(t)
    if refusal is not None:
        return refusal
    found = lights_of(lines_of(t))
    if i >= len(found) or j >= len(found):
        return [NO_SUCH]
    places = crossing(found[i], found[j])
    if places is None:
        return [0]
    return [1, places[0], places[1]]


def checked(r, c, t):
    refusal = refused_lattice(t)
    if refusal is not None:
        return refusal
    rows = lines_of(t)
    if not is_white(rows, (r, c)):
        return [NO_SUCH]
    # A white cell by itself is in no light, so nothing is kept of it.
    places = lights_by_cell(lights_of(rows)).get((r, c), [])
    return [len(places)] + places


def words(w):
    refusal = refused_words(w)
    if refusal is not None:
        return refusal
    lengths = [len(word) for word in lines_of(w)]
    return [len(lengths)] + lengths


def search_of(n, t, w):
    return Search(slots_of(lines_of(t)), lines_of(w), n)


def told_filling(filling):
    if filling is None:
        return [0]
    return [1] + filling


def first(n, t, w):
    refusal = refused_search(n, t, w)
    if refusal is not None:
        return refusal
    try:
        return told_filling(search_of(n, t, w).following())
    except TooFewTrials:
        return [TOO_FEW]


def next_of(n, t, w, a):
    refusal = refused_search(n, t, w)
    if refusal is not None:
        return refusal
    search = search_of(n, t, w)
    if len(a) != len(search.slots):
        return [NO_SUCH]
    try:
        return told_filling(first_behind(search, a))
    except TooFewTrials:
        return [TOO_FEW]


def count(n, m, t, w):
    refusal = refused_count(n, m, t, w)
    if refusal is not None:
        return refusal
    try:
        return [how_many(search_of(n, t, w), m)]
    except TooFewTrials:
        return [TOO_FEW]


def fits(t, w, f):
    refusal = refused_texts(t, w)
    if refusal is not None:
        return refusal
    wrong = first_wrong(slots_of(lines_of(t)), lines_of(w), f)
    if wrong is None:
        return [1]
    return [0] + wrong


def letters(t, w, f):
    refusal = refused_texts(t, w)
    if refusal is not None:
        return refusal
    slots = slots_of(lines_of(t))
    listed = lines_of(w)
    if first_wrong(slots, listed, f) is not None:
        return [NO_SUCH]
    text = lettered(t, slots, listed, f)
    return [len(text)] + text
