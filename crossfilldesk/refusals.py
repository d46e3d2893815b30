"""What calls refuse: the numbers of the refusals, and those answers that several calls share, or None."""

from crossfilldesk.texts import first_fault

NO_LATTICE = -6
NO_SUCH = -4


def refused_lattice(t):
    fault = first_fault(t)
    if fault is None:
        return None
    return [NO_LATTICE, fault]
