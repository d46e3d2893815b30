"""What is at fault with a lattice: each search gives the cell that is told, or None."""

from crossfilldesk.cells import cells_beside
from crossfilldesk.cells import cells_of
from crossfilldesk.cells import is_white
from crossfilldesk.cells import white_cells
from crossfilldesk.runs import is_checked
from crossfilldesk.runs import lights_by_cell
from crossfilldesk.runs import lights_of


def cell_of_no_white(rows):
    if len(white_cells(rows)) == 0:
        return (0, 0)
    return None


def first_not_turned_alike(rows):
    for cell in cells_of(rows):
        facing = (len(rows) - 1 - cell[0], len(rows[0]) - 1 - cell[1])
        if is_white(rows, cell) != is_white(rows, facing):
            return cell
    return None


def reached_from(rows, start):
    reached = {start: True}
    waiting = [start]
    while len(waiting) > 0:
        here = waiting.pop()
        for cell in cells_beside(here):
            if is_white(rows, cell) and cell not in reached:
                reached[cell] = True
                waiting.append(cell)
    return reached


def first_cut_off(rows):
    whites = white_cells(rows)
    if len(whites) == 0:
        return None
    reached = reached_from(rows, whites[0])
    for cell in whites:
        if cell not in reached:
            return cell
    return None


def first_in_no_light(rows, by_cell):
    for cell in white_cells(rows):
        if cell not in by_cell:
            return cell
    return None


def first_of_two_cells(lights):
    for light in lights:
        if len(light.cells) == 2:
            return light.cells[0]
    return None


def first_unchecked_pair(lights, by_cell):
    for light in lights:
        for cell, behind in zip(light.cells, light.cells[1:]):
            if not is_checked(by_cell, cell) and not is_checked(by_cell, behind):
                return cell
    return None


def first_below_half_checked(lights, by_cell):
    for light in lights:
        checked = [cell for cell in light.cells if is_checked(by_cell, cell)]
        if 2 * len(checked) < len(light.cells):
            return light.cells[0]
    return None


def judgement(rows):
    lights = lights_of(rows)
    by_cell = lights_by_cell(lights)
    # Their order is that of the kinds: the first that tells a cell is the judgement.
    faults = [
        cell_of_no_white(rows),
        first_not_turned_alike(rows),
        first_cut_off(rows),
        first_in_no_light(rows, by_cell),
        first_of_two_cells(lights),
        first_unchecked_pair(lights, by_cell),
        first_below_half_checked(lights, by_cell),
    ]
    for kind, cell in enumerate(faults, start=1):
        if cell is not None:
            return [kind, cell[0], cell[1]]
    return [0]
