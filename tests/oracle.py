"""What DOC.md says of the calls, worked out from its words in another way than the program's."""

import functools
import re

CELL = re.compile("[#.A-Z]*")


def bytes_of(*rows):
    return [ord(sign) for row in rows for sign in row + "\n"]


def goes_on(text):
    """Whether some lattice's text begins with this one: tried for every width."""
    *whole, rest = text.split("\n")
    if not all(CELL.fullmatch(row) for row in whole + [rest]):
        return False
    if len(whole) > 9 or (len(whole) == 9 and rest):
        return False
    return any(all(len(row) == width for row in whole) and len(rest) <= width for width in range(2, 10))


def is_lattice(text):
    return any(re.fullmatch("([#.A-Z]{%d}\n){2,9}" % width, text) for width in range(2, 10))


def first_fault(t):
    """None if there is none, else how much of the text can still go on, less the byte that can't."""
    text = "".join(chr(byte) for byte in t)
    if is_lattice(text):
        return None
    return max(size for size in range(len(text) + 1) if goes_on(text[:size]))


def lights(rows):
    """Each as (number, way, cells); the runs are found by pattern in the rows and in the columns."""
    runs = []
    for r, row in enumerate(rows):
        for found in re.finditer("[^#]{2,}", row):
            runs.append(((r, found.start()), 0, [(r, c) for c in range(*found.span())]))
    for c, column in enumerate("".join(column) for column in zip(*rows)):
        for found in re.finditer("[^#]{2,}", column):
            runs.append(((found.start(), c), 1, [(r, c) for r in range(*found.span())]))
    starts = sorted({start for start, way, cells in runs})
    return [(starts.index(start) + 1, way, cells) for start, way, cells in sorted(runs)]


def lights_answer(rows):
    told = lights(rows)
    answer = [len(told)]
    for number, way, cells in told:
        answer += [number, way, *cells[0], len(cells)]
    return answer


def cross_answer(rows, i, j):
    told = lights(rows)
    if i >= len(told) or j >= len(told):
        return [-4]
    both = set(told[i][2]) & set(told[j][2])
    if i == j or not both:
        return [0]
    (cell,) = both
    return [1, told[i][2].index(cell), told[j][2].index(cell)]


def checked_answer(rows, r, c):
    signs = {(row, column): sign for row, line in enumerate(rows) for column, sign in enumerate(line)}
    if signs.get((r, c), "#") == "#":
        return [-4]
    within = [place for place, light in enumerate(lights(rows)) if (r, c) in light[2]]
    return [len(within), *within]


def connected_to_first(whites):
    """Grows by whole rounds until a round adds none."""
    reached = set(whites[:1])
    while True:
        grown = {(r, c) for r, c in whites
                 if reached & {(r, c), (r - 1, c), (r + 1, c), (r, c - 1), (r, c + 1)}}
        if grown == reached:
            return reached
        reached = grown


def faults(rows):
    """Every fault as [kind, row, column], the one that is told first at the front."""
    whites = [(r, c) for r, row in enumerate(rows) for c, sign in enumerate(row) if sign != "#"]
    told = lights(rows)
    within = [cell for number, way, cells in told for cell in cells]
    turned = [row[::-1] for row in reversed(rows)]
    found = [] if whites else [[1, 0, 0]]
    for r, row in enumerate(rows):
        found += [[2, r, c] for c, sign in enumerate(row) if (sign == "#") != (turned[r][c] == "#")]
    reached = connected_to_first(whites)
    found += [[3, *cell] for cell in whites if cell not in reached]
    found += [[4, *cell] for cell in whites if cell not in within]
    found += [[5, *cells[0]] for number, way, cells in told if len(cells) == 2]
    for number, way, cells in told:
        marks = "".join("x" if within.count(cell) == 2 else "-" for cell in cells)
        found += [[6, *cells[k]] for k in range(len(cells)) if marks.startswith("--", k)]
    for number, way, cells in told:
        if sum(within.count(cell) == 2 for cell in cells) * 2 < len(cells):
            found.append([7, *cells[0]])
    return found


def judge_answer(rows):
    return (faults(rows) + [[0]])[0]


def words_go_on(text):
    return (re.fullmatch("([A-Z]{2,9}\n){0,200}", text) or
            re.fullmatch("([A-Z]{2,9}\n){0,199}[A-Z]{1,9}", text)) is not None


def words_fault(w):
    """None if there is none, else how much of the text can still go on, less the byte that can't."""
    text = "".join(chr(byte) for byte in w)
    if re.fullmatch("([A-Z]{2,9}\n){0,200}", text):
        return None
    return max(size for size in range(len(text) + 1) if words_go_on(text[:size]))


def stands(rows, words, numbers):
    """Whether these words may stand in the first so many lights: each cell is given one letter by all that have it."""
    letters = {(r, c): sign for r, row in enumerate(rows) for c, sign in enumerate(row) if sign.isupper()}
    for (number, way, cells), word in zip(lights(rows), [words[k] for k in numbers]):
        if len(word) != len(cells) or any(letters.setdefault(cell, sign) != sign for cell, sign in zip(cells, word)):
            return False
    return len(set(numbers)) == len(numbers)


def beginnings(rows, words, most=None):
    """All beginnings of fillings: of no lights, of one, of two, ..; the last are the fillings. None if there are
    more than most of one size."""
    sizes = [[()]]
    for light in lights(rows):
        sizes.append([begun + (k,) for begun in sizes[-1] for k in range(len(words))
                      if stands(rows, words, begun + (k,))])
        if most is not None and len(sizes[-1]) > most:
            return None
    return sizes


def all_trials(sizes, words):
    """Behind each beginning that is no filling, each word is tried."""
    return sum(len(size) for size in sizes[:-1]) * len(words)


def trials_up_to(sizes, words, filling):
    """As all_trials, but only those that are made before the filling's last word, and that one: a trial comes
    before another just if the numbers it makes do, in the order of words in a lexicon."""
    return sum(begun + (k,) <= filling for size in sizes[:-1] for begun in size for k in range(len(words)))


def pattern(height, width, bits, white="."):
    """The rows whose blocks are the ones among so many bits, row by row."""
    signs = "".join("#" if bits >> k & 1 else white for k in range(height * width))
    return [signs[k:k + width] for k in range(0, height * width, width)]


def turned_alike(height, width, bits):
    """The same, but the second half mirrors the first."""
    size = height * width
    half = "".join("#" if bits >> k & 1 else "." for k in range((size + 1) // 2))
    signs = half + half[:size // 2][::-1]
    return [signs[k:k + width] for k in range(0, size, width)]


def spread(count, size):
    """So many numbers below size, scattered, the same at every run."""
    value = 1
    for step in range(count):
        value = (value * 6364136223846793005 + 1442695040888963407) % 2 ** 127
        yield (value >> 20) % size


def scattered_lattices(count):
    """Lattices of all heights and widths, with few blocks or many, some with locked letters."""
    draws = spread(count * 90, 2 ** 30)
    for step in range(count):
        height, width, share = 2 + next(draws) % 8, 2 + next(draws) % 8, next(draws) % 10
        rows = []
        for r in range(height):
            signs = ["#" if next(draws) % 10 < share else ".QAZ."[next(draws) % 5 if step % 3 == 0 else 0]
                     for c in range(width)]
            rows.append("".join(signs))
        yield rows


@functools.cache
def all_scattered_fillings():
    """Kept, as many tests go through them."""
    draws = spread(1000000, 2 ** 30)
    found = []
    while len(found) < 1500:
        height, width, share = 2 + next(draws) % 3, 2 + next(draws) % 3, next(draws) % 6
        rows = ["".join("#" if next(draws) % 10 < share else "......AB"[next(draws) % 8] for c in range(width))
                for r in range(height)]
        lengths = sorted({len(cells) for number, way, cells in lights(rows)}) + [2 + next(draws) % 3]
        words = ["".join("AABC"[next(draws) % (3 + share % 2)] for k in range(lengths[next(draws) % len(lengths)]))
                 for word in range(next(draws) % 14)]
        sizes = beginnings(rows, words, 400)
        if sizes is not None:
            found.append((rows, words, sizes))
    return found


def scattered_fillings(count):
    """Small lattices and few words in few letters: rows, words, and all beginnings of fillings."""
    return all_scattered_fillings()[:count]


def fits_answer(rows, words, f):
    """Everything that is wrong is put down as (light, kind), and the least is told."""
    told = lights(rows)
    if len(f) != len(told):
        return [0, 1, len(f)]
    wrong = []
    for place, ((number, way, cells), k) in enumerate(zip(told, f)):
        if k >= len(words):
            wrong.append((place, 2))
            continue
        signs = [rows[r][c] for r, c in cells]
        if not re.fullmatch("".join("." if sign == "." else sign for sign in signs), words[k]):
            wrong.append((place, 3))
        if f.index(k) < place:
            wrong.append((place, 4))
        for other, (cells_there, there) in enumerate(zip([light[2] for light in told[:place]], f)):
            for cell in set(cells) & set(cells_there):
                mine, theirs = cells.index(cell), cells_there.index(cell)
                # Where the earlier word is too short, something is wrong there already, and that is told.
                if there < len(words) and words[k][mine:mine + 1] != words[there][theirs:theirs + 1]:
                    wrong.append((place, 5))
    if not wrong:
        return [1]
    place, kind = min(wrong)
    return [0, kind, place]


def letters_answer(rows, words, f):
    if fits_answer(rows, words, f) != [1]:
        return [-4]
    signs = [list(row) for row in rows]
    for (number, way, cells), k in reversed(list(zip(lights(rows), f))):
        for (r, c), sign in zip(cells, words[k]):
            signs[r][c] = sign
    text = bytes_of(*["".join(row) for row in signs])
    return [len(text), *text]
