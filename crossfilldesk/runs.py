"""The lights of a lattice: where they lie, their numbers and their order."""

from crossfilldesk.cells import ACROSS
from crossfilldesk.cells import DOWN
from crossfilldesk.cells import cells_of
from crossfilldesk.cells import is_white
from crossfilldesk.cells import moved


class Light:
    def __init__(self, number, way, cells):
        self.number = number
        self.way = way
        self.cells = cells


# A light has two cells or more, so the one right behind its first is white as well.
def begins_light(rows, cell, way):
    if is_white(rows, moved(cell, way, -1)):
        return False
    return is_white(rows, cell) and is_white(rows, moved(cell, way, 1))


def white_run(rows, start, way):
    run = []
    cell = start
    while is_white(rows, cell):
        run.append(cell)
        cell = moved(cell, way, 1)
    return run


def lights_of(rows):
    lights = []
    number = 0
    for cell in cells_of(rows):
        ways = [way for way in (ACROSS, DOWN) if begins_light(rows, cell, way)]
        # The number belongs to the cell, so two lights that begin there share it.
        if len(ways) > 0:
            number = number + 1
        for way in ways:
            lights.append(Light(number, way, white_run(rows, cell, way)))
    return lights


# Of each cell that is in a light, the places of its lights in their order.
def lights_by_cell(lights):
    by_cell = {}
    for place, light in enumerate(lights):
        for cell in light.cells:
            by_cell.setdefault(cell, []).append(place)
    return by_cell


def is_checked(by_cell, cell):
    return len(by_cell[cell]) == 2


# Only lights of the two ways cross, so a light doesn't cross itself.
def crossing(light, other):
    if light.way == other.way:
        return None
    for place, cell in enumerate(light.cells):
        if cell in other.cells:
            return (place, other.cells.index(cell))
    return None
