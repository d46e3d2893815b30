"""The cells of a lattice's rows: which are white, and which lie beside one another.

A cell is the pair of its row and its column.
"""

from crossfilldesk.texts import BLOCK

ACROSS = 0
DOWN = 1


def cells_of(rows):
    cells = []
    for r in range(len(rows)):
        for c in range(len(rows[r])):
            cells.append((r, c))
    return cells


# A place beyond the edge may be asked for too: what ends at the edge then needs no case of its own.
def is_white(rows, cell):
    if cell[0] < 0 or cell[0] >= len(rows):
        return False
    if cell[1] < 0 or cell[1] >= len(rows[0]):
        return False
    return rows[cell[0]][cell[1]] != BLOCK


def white_cells(rows):
    return [cell for cell in cells_of(rows) if is_white(rows, cell)]


def moved(cell, way, steps):
    if way == ACROSS:
        return (cell[0], cell[1] + steps)
    return (cell[0] + steps, cell[1])


def cells_beside(cell):
    return [moved(cell, ACROSS, -1), moved(cell, ACROSS, 1), moved(cell, DOWN, -1), moved(cell, DOWN, 1)]
