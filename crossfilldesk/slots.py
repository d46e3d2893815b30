"""Lights as words are put into them: what each asks of its word, and what is wrong with one."""

from crossfilldesk.runs import crossing
from crossfilldesk.runs import lights_of
from crossfilldesk.texts import is_letter

NOTHING_WRONG = 0
NO_SUCH_WORD = 2
NOT_BY_ITSELF = 3
STANDS_BEFORE = 4
CROSSES_WRONGLY = 5


# locked holds pairs: a place in the light, and the letter that is locked there.
# crossings holds triples: a place in the light, an earlier light, and the same cell's place in that one.
class Slot:
    def __init__(self, cells, locked, crossings):
        self.cells = cells
        self.locked = locked
        self.crossings = crossings


def locked_letters(rows, light):
    locked = []
    for place, cell in enumerate(light.cells):
        byte = rows[cell[0]][cell[1]]
        if is_letter(byte):
            locked.append((place, byte))
    return locked


def earlier_crossings(lights, light):
    crossings = []
    for earlier, other in enumerate(lights):
        places = crossing(light, other)
        if places is not None:
            crossings.append((places[0], earlier, places[1]))
    return crossings


def slots_of(rows):
    lights = lights_of(rows)
    slots = []
    for place, light in enumerate(lights):
        slots.append(Slot(light.cells, locked_letters(rows, light), earlier_crossings(lights[:place], light)))
    return slots


def stands_by_itself(slot, word):
    if len(word) != len(slot.cells):
        return False
    for place, letter in slot.locked:
        if word[place] != letter:
            return False
    return True


def agrees_with_earlier(slot, words, earlier, word):
    for place, other, other_place in slot.crossings:
        if word[place] != words[earlier[other]][other_place]:
            return False
    return True


# earlier holds the numbers of the words in the lights before this one, with which nothing is wrong.
def wrong_with(slots, words, earlier, number):
    if number >= len(words):
        return NO_SUCH_WORD
    slot = slots[len(earlier)]
    word = words[number]
    if not stands_by_itself(slot, word):
        return NOT_BY_ITSELF
    if number in earlier:
        return STANDS_BEFORE
    if not agrees_with_earlier(slot, words, earlier, word):
        return CROSSES_WRONGLY
    return NOTHING_WRONG
