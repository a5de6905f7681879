"""The calls on one bed, and what they answer.

Each call answers a list of whole numbers; a refusal is a list of one number below 0.
"""

from spawnbed.spread import NEVER, area_sizes, day_of_all, fewest_cells, free_cells, reached_by, spread_days, way_to

MISSING = -2
BARRED = -16
ALREADY = -17
OUT_OF_RANGE = -22
TOO_MANY = -28
NOT_BEGUN = -61

LONGEST_SIDE = 5
MOST_GRAINS = 6
MOST_BACK = 10
MOST_ENOUGH = 3
LATEST_DAY = 50

BEGIN = 0
# By a call's number: how many numbers stand behind it.
NUMBERS_BEHIND = (2, 1, 1, 1, 1, 0, 1, 0, 1, 0, 1, 1, 0, 1, 0, 1, 1, 0, 0, 0)


class Bed:
    """A bed; it has no cells until it is begun."""

    def __init__(self):
        self.width = 0
        self.height = 0
        self.blocked = []
        self.grains = []
        # The (blocked, grains) ahead of each change that can be taken back, the latest at the end.
        self.earlier = []


def has_cell(bed, cell):
    return cell < bed.width * bed.height


def days_of(bed):
    return spread_days(bed.width, bed.height, bed.blocked, bed.grains)


def full_day_if(bed, blocked, grains):
    """The day on which all would be run through, were these blocked and did grains lie there."""
    return day_of_all(spread_days(bed.width, bed.height, blocked, grains), blocked)


def without_cell(cells, cell):
    return [other for other in cells if other != cell]


def change(bed, blocked, grains):
    # The lists are replaced, never changed, so that those kept for taking back stay as they were.
    kept = bed.earlier + [(bed.blocked, bed.grains)]
    bed.earlier = kept[-MOST_BACK:]
    bed.blocked = blocked
    bed.grains = grains


def begin_bed(bed, width, height):
    if width < 1 or width > LONGEST_SIDE or height < 1 or height > LONGEST_SIDE:
        return [OUT_OF_RANGE]
    bed.width = width
    bed.height = height
    bed.blocked = []
    bed.grains = []
    bed.earlier = []
    return [0]


def block_refusal(bed, cell):
    """Why the cell can't be blocked; empty if it can."""
    if not has_cell(bed, cell):
        return [MISSING]
    if cell in bed.blocked:
        return [ALREADY]
    if cell in bed.grains:
        return [BARRED]
    return []


def block_cell(bed, cell):
    refused = block_refusal(bed, cell)
    if len(refused) > 0:
        return refused
    change(bed, bed.blocked + [cell], bed.grains)
    return [len(bed.blocked)]


def clear_cell(bed, cell):
    if cell not in bed.blocked:
        return [MISSING]
    change(bed, without_cell(bed.blocked, cell), bed.grains)
    return [len(bed.blocked)]


def lay_grain(bed, cell):
    if not has_cell(bed, cell):
        return [MISSING]
    if cell in bed.blocked:
        return [BARRED]
    if cell in bed.grains:
        return [ALREADY]
    if len(bed.grains) >= MOST_GRAINS:
        return [TOO_MANY]
    change(bed, bed.blocked, bed.grains + [cell])
    return [len(bed.grains)]


def take_grain(bed, cell):
    if cell not in bed.grains:
        return [MISSING]
    change(bed, bed.blocked, without_cell(bed.grains, cell))
    return [len(bed.grains)]


def take_back(bed):
    if len(bed.earlier) == 0:
        return [MISSING]
    before = bed.earlier[-1]
    bed.earlier = bed.earlier[:-1]
    bed.blocked = before[0]
    bed.grains = before[1]
    return [len(bed.earlier)]


def day_of_cell(bed, cell):
    if not has_cell(bed, cell):
        return [MISSING]
    if cell in bed.blocked:
        return [BARRED]
    return [days_of(bed)[cell]]


def full_day(bed):
    return [full_day_if(bed, bed.blocked, bed.grains)]


def counted(cells):
    return [len(cells)] + cells


def cells_by_day(bed, day):
    return counted(reached_by(days_of(bed), day))


def cells_on_day(bed, day):
    days = days_of(bed)
    return counted([cell for cell in range(len(days)) if days[cell] == day])


def last_cells(bed):
    full = full_day(bed)
    if full == [NEVER]:
        return full
    return cells_on_day(bed, full[0])


def way_to_cell(bed, cell):
    day = day_of_cell(bed, cell)
    if day[0] < 0:
        return day
    return counted(way_to(bed.width, bed.height, days_of(bed), cell))


def best_cell(bed):
    helped = []
    for cell in free_cells(bed.width, bed.height, bed.blocked):
        day = full_day_if(bed, bed.blocked, bed.grains + [cell])
        if day != NEVER:
            helped.append((day, cell))
    if len(helped) == 0:
        return [NEVER]
    soonest = min(helped)
    return [soonest[1], soonest[0]]


def fewest_grains(bed, day):
    if day > LATEST_DAY:
        return [OUT_OF_RANGE]
    found = fewest_cells(bed.width, bed.height, bed.blocked, day, MOST_ENOUGH)
    if found is None:
        return [NEVER]
    return counted(found)


def day_without(bed, cell):
    if cell not in bed.grains:
        return [MISSING]
    return [full_day_if(bed, bed.blocked, without_cell(bed.grains, cell))]


def day_if_blocked(bed, cell):
    refused = block_refusal(bed, cell)
    if len(refused) > 0:
        return refused
    return [full_day_if(bed, bed.blocked + [cell], bed.grains)]


def area_counts(bed):
    return counted(area_sizes(bed.width, bed.height, bed.blocked))


def day_map(bed):
    return counted([0 if day == NEVER else day + 1 for day in days_of(bed)])


def grain_cells(bed):
    return counted(sorted(bed.grains))


def state_of(bed):
    return [bed.width, bed.height, len(bed.blocked), len(bed.grains), len(bed.earlier)]


WITH_NO_NUMBER = {
    5: take_back, 7: full_day, 9: last_cells, 12: best_cell, 14: area_counts, 17: day_map, 18: grain_cells,
    19: state_of,
}
WITH_ONE_NUMBER = {
    1: block_cell, 2: clear_cell, 3: lay_grain, 4: take_grain, 6: day_of_cell, 8: cells_by_day, 10: cells_on_day,
    11: way_to_cell, 13: fewest_grains, 15: day_without, 16: day_if_blocked,
}


def answer_of(bed, call, numbers):
    if call == BEGIN:
        return begin_bed(bed, numbers[0], numbers[1])
    if bed.width == 0:
        return [NOT_BEGUN]
    if call in WITH_NO_NUMBER:
        return WITH_NO_NUMBER[call](bed)
    return WITH_ONE_NUMBER[call](bed, numbers[0])


def answers(calls):
    """The answers to the calls on one new bed: before each answer how many numbers it has."""
    bed = Bed()
    told = []
    place = 0
    while place < len(calls):
        call = calls[place]
        behind = place + 1 + NUMBERS_BEHIND[call]
        answer = answer_of(bed, call, calls[place + 1:behind])
        told.append(len(answer))
        told.extend(answer)
        place = behind
    return told
