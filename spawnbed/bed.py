"""The calls on one bed, and what they answer.

Each call answers a list of whole numbers; a refusal is a list of one number below 0.
"""

from spawnbed.spread import NEVER, day_of_all, spread_days

MISSING = -2
BARRED = -16
ALREADY = -17
BAD_SIZE = -22
TOO_MANY = -28
NOT_BEGUN = -61

LONGEST_SIDE = 5
MOST_GRAINS = 6
MOST_BACK = 10

BEGIN = 0
# By a call's number: how many numbers stand behind it.
NUMBERS_BEHIND = (2, 1, 1, 1, 1, 0, 1, 0, 1, 0, 1, 1, 0, 1, 0, 1, 1, 0, 0, 0)


class Bed:
    """A bed; it has no cells until it is begun."""

    def __init__(self):
        self.width = 0
        self.height = 0
        self.blocked = []
        self.grains = []
        # The (blocked, grains) ahead of each change that can be taken back, the latest at the end.
        self.earlier = []


def has_cell(bed, cell):
    return cell < bed.width * bed.height


def days_of(bed):
    return spread_days(bed.width, bed.height, bed.blocked, bed.grains)


def without_cell(cells, cell):
    return [other for other in cells if other != cell]


def change(bed, blocked, grains):
    # The lists are replaced, never changed, so that those kept for taking back stay as they were.
    kept = bed.earlier + [(bed.blocked, bed.grains)]
    bed.earlier = kept[-MOST_BACK:]
    bed.blocked = blocked
    bed.grains = grains


def begin_bed(bed, width, height):
    if width < 1 or width > LONGEST_SIDE or height < 1 or height > LONGEST_SIDE:
        return [BAD_SIZE]
    bed.width = width
    bed.height = height
    bed.blocked = []
    bed.grains = []
    bed.earlier = []
    return [0]


def block_cell(bed, cell):
    if not has_cell(bed, cell):
        return [MISSING]
    if cell in bed.blocked:
        return [ALREADY]
    if cell in bed.grains:
        return [BARRED]
    change(bed, bed.blocked + [cell], bed.grains)
    return [len(bed.blocked)]


def clear_cell(bed, cell):
    if cell not in bed.blocked:
        return [MISSING]
    change(bed, without_cell(bed.blocked, cell), bed.grains)
    return [len(bed.blocked)]


def lay_grain(bed, cell):
    if not has_cell(bed, cell):
        return [MISSING]
    if cell in bed.blocked:
        return [BARRED]
    if cell in bed.grains:
        return [ALREADY]
    if len(bed.grains) >= MOST_GRAINS:
        return [TOO_MANY]
    change(bed, bed.blocked, bed.grains + [cell])
    return [len(bed.grains)]


def take_grain(bed, cell):
    if cell not in bed.grains:
        return [MISSING]
    change(bed, bed.blocked, without_cell(bed.grains, cell))
    return [len(bed.grains)]


def take_back(bed):
    if len(bed.earlier) == 0:
        return [MISSING]
    before = bed.earlier[-1]
    bed.earlier = bed.earlier[:-1]
    bed.blocked = before[0]
    bed.grains = before[1]
    return [len(bed.earlier)]


def day_of_cell(bed, cell):
    if not has_cell(bed, cell):
        return [MISSING]
    if cell in bed.blocked:
        return [BARRED]
    return [days_of(bed)[cell]]


def full_day(bed):
    return [day_of_all(days_of(bed), bed.blocked)]


def counted(cells):
    return [len(cells)] + cells


def cells_by_day(bed, day):
    days = days_of(bed)
    return counted([cell for cell in range(len(days)) if days[cell] != NEVER and days[cell] <= day])


def last_cells(bed):
    days = days_of(bed)
    full = day_of_all(days, bed.blocked)
    if full == NEVER:
        return [NEVER]
    return counted([cell for cell in range(len(days)) if days[cell] == full])


WITH_NO_NUMBER = {5: take_back, 7: full_day, 9: last_cells}
WITH_ONE_NUMBER = {1: block_cell, 2: clear_cell, 3: lay_grain, 4: take_grain, 6: day_of_cell, 8: cells_by_day}


def answer_of(bed, call, numbers):
    if call == BEGIN:
        return begin_bed(bed, numbers[0], numbers[1])
    if bed.width == 0:
        return [NOT_BEGUN]
    if call in WITH_NO_NUMBER:
        return WITH_NO_NUMBER[call](bed)
    if call in WITH_ONE_NUMBER:
        return WITH_ONE_NUMBER[call](bed, numbers[0])
    raise NotImplementedError("this call is not built yet")


def answers(calls):
    """The answers to the calls on one new bed: before each answer how many numbers it has."""
    bed = Bed()
    told = []
    place = 0
    while place < len(calls):
        call = calls[place]
        behind = place + 1 + NUMBERS_BEHIND[call]
        answer = answer_of(bed, call, calls[place + 1:behind])
        told.append(len(answer))
        told.extend(answer)
        place = behind
    return told
