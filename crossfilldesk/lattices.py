"""The calls: each takes lists of bytes and numbers, and gives its answer as one list of numbers."""

from crossfilldesk.cells import is_white
from crossfilldesk.judging import judgement
from crossfilldesk.refusals import NO_SUCH
from crossfilldesk.refusals import refused_lattice
from crossfilldesk.runs import crossing
from crossfilldesk.runs import lights_by_cell
from crossfilldesk.runs import lights_of
from crossfilldesk.texts import rows_of


def judge(t):
    refusal = refused_lattice(t)
    if refusal is not None:
        return refusal
    return judgement(rows_of(t))


def lights(t):
    refusal = refused_lattice(t)
    if refusal is not None:
        return refusal
    found = lights_of(rows_of(t))
    answer = [len(found)]
    for light in found:
        start = light.cells[0]
        answer.extend([light.number, light.way, start[0], start[1], len(light.cells)])
    return answer


def cross(i, j, t):
    refusal = refused_lattice(t)
    if refusal is not None:
        return refusal
    found = lights_of(rows_of(t))
    if i >= len(found) or j >= len(found):
        return [NO_SUCH]
    places = crossing(found[i], found[j])
    if places is None:
        return [0]
    return [1, places[0], places[1]]


def checked(r, c, t):
    refusal = refused_lattice(t)
    if refusal is not None:
        return refusal
    rows = rows_of(t)
    if not is_white(rows, (r, c)):
        return [NO_SUCH]
    # A white cell by itself is in no light, so nothing is kept of it.
    places = lights_by_cell(lights_of(rows)).get((r, c), [])
    return [len(places)] + places
