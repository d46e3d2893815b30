"""Texts, made of lines with a byte behind each: the first fault of a lattice's, and the lines of any."""

LINE_END = 10
BLOCK = 35
WHITE = 46
LETTER_A = 65
LETTER_Z = 90
LEAST_SIDE = 2
MOST_SIDE = 9


def is_letter(byte):
    return LETTER_A <= byte <= LETTER_Z


def is_cell(byte):
    return byte == BLOCK or byte == WHITE or is_letter(byte)


# least and most are the cells that the row may have: they differ in the first row alone,
# as that one settles how wide the others are.
def may_follow(byte, row, column, least, most):
    if row == MOST_SIDE:
        return False
    if byte == LINE_END:
        return column >= least
    return is_cell(byte) and column < most


# None stands for no fault, since 0 is a place.
def first_fault(t):
    row = 0
    column = 0
    least = LEAST_SIDE
    most = MOST_SIDE
    for place, byte in enumerate(t):
        if not may_follow(byte, row, column, least, most):
            return place
        if byte == LINE_END:
            least = column
            most = column
            row = row + 1
            column = 0
        else:
            column = column + 1
    if column > 0 or row < LEAST_SIDE:
        return len(t)
    return None


# Only for texts without a fault: what stands behind the last line end is left out.
def lines_of(text):
    lines = []
    line = []
    for byte in text:
        if byte == LINE_END:
            lines.append(line)
            line = []
        else:
            line.append(byte)
    return lines
