"""The calls: each takes lists of bytes and numbers, and gives its answer as one list of numbers."""

from crossfilldesk.judging import judgement
from crossfilldesk.runs import lights_of
from crossfilldesk.texts import first_fault
from crossfilldesk.texts import rows_of

NO_LATTICE = -6


def judge(t):
    fault = first_fault(t)
    if fault is not None:
        return [NO_LATTICE, fault]
    return judgement(rows_of(t))


def lights(t):
    fault = first_fault(t)
    if fault is not None:
        return [NO_LATTICE, fault]
    found = lights_of(rows_of(t))
    answer = [len(found)]
    for light in found:
        start = light.cells[0]
        answer.extend([light.number, light.way, start[0], start[1], len(light.cells)])
    return answer
