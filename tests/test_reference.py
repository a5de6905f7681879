"""Many lists of calls, against a second, slower way to the same answers."""

import functools
import itertools
import random
import unittest

from tests.calls import HIGHEST, ask

CELL_CALLS = ("block", "clear", "grain", "take", "day", "way", "without", "if_block")
DAY_CALLS = ("run", "on_day", "fewest")
PLAIN_CALLS = ("back", "full", "last", "best", "areas", "map", "grains", "state")
FAR = 1000


@functools.lru_cache(maxsize=None)
def neighbours(width, one, other):
    row, column = divmod(one, width)
    other_row, other_column = divmod(other, width)
    return abs(row - other_row) + abs(column - other_column) == 1


@functools.lru_cache(maxsize=None)
def steps(width, height, boards):
    """Of each two free cells how many steps they are apart: by each cell in turn as one on the way."""
    free = [cell for cell in range(width * height) if cell not in boards]
    apart = {(one, other): 1 if neighbours(width, one, other) else FAR for one in free for other in free}
    apart.update({(cell, cell): 0 for cell in free})
    for by in free:
        for one in free:
            for other in free:
                apart[one, other] = min(apart[one, other], apart[one, by] + apart[by, other])
    return apart


class Reference:
    """Follows the document's words: sets of cells told by column and row, one set a day."""

    def __init__(self):
        self.size = None

    def answer(self, call):
        parts = (call,) if isinstance(call, str) else call
        if parts[0] != "begin" and self.size is None:
            return [-61]
        return getattr(self, parts[0])(*parts[1:])

    def begin(self, width, height):
        if not (1 <= width <= 5 and 1 <= height <= 5):
            return [-22]
        self.size = (width, height)
        self.boards = frozenset()
        self.laid = frozenset()
        self.log = []
        return [0]

    def known(self, cell):
        return cell in range(self.size[0] * self.size[1])

    def free(self):
        return {cell for cell in range(self.size[0] * self.size[1]) if cell not in self.boards}

    def keep(self):
        self.log.append((self.boards, self.laid))
        if len(self.log) > 10:
            self.log.pop(0)

    def block(self, cell):
        if not self.known(cell):
            return [-2]
        if cell in self.boards:
            return [-17]
        if cell in self.laid:
            return [-16]
        self.keep()
        self.boards = self.boards | {cell}
        return [len(self.boards)]

    def clear(self, cell):
        if cell not in self.boards:
            return [-2]
        self.keep()
        self.boards = self.boards - {cell}
        return [len(self.boards)]

    def grain(self, cell):
        if not self.known(cell):
            return [-2]
        if cell in self.boards:
            return [-16]
        if cell in self.laid:
            return [-17]
        if len(self.laid) == 6:
            return [-28]
        self.keep()
        self.laid = self.laid | {cell}
        return [len(self.laid)]

    def take(self, cell):
        if cell not in self.laid:
            return [-2]
        self.keep()
        self.laid = self.laid - {cell}
        return [len(self.laid)]

    def back(self):
        if not self.log:
            return [-2]
        self.boards, self.laid = self.log.pop()
        return [len(self.log)]

    def by_day(self, day):
        reached = set(self.laid)
        # No way in a bed of 25 cells has more steps.
        for _ in range(min(day, 25)):
            reached |= {
                cell for cell in self.free() if any(neighbours(self.size[0], cell, other) for other in reached)
            }
        return reached

    def day(self, cell):
        if not self.known(cell):
            return [-2]
        if cell in self.boards:
            return [-16]
        return [next((day for day in range(26) if cell in self.by_day(day)), -33)]

    def full(self):
        return [next((day for day in range(26) if self.by_day(day) == self.free()), -33)]

    def run(self, day):
        cells = sorted(self.by_day(day))
        return [len(cells)] + cells

    def last(self):
        day = self.full()[0]
        if day < 0:
            return [day]
        return self.on_day(day)

    def on_day(self, day):
        cells = sorted(self.by_day(day) - (self.by_day(day - 1) if day > 0 else set()))
        return [len(cells)] + cells

    def day_if(self, boards, laid, cell):
        apart = steps(*self.size, boards)
        return min([apart[grain, cell] for grain in laid], default=FAR)

    def full_if(self, boards, laid):
        free = [cell for cell in range(self.size[0] * self.size[1]) if cell not in boards]
        last = max([self.day_if(boards, laid, cell) for cell in free], default=0)
        return -33 if last >= FAR else last

    def ways_back(self, cell):
        """All the shortest ways to the cell, each told back from it."""
        day = self.day_if(self.boards, self.laid, cell)
        if day == 0:
            return [[cell]]
        before = [
            other for other in self.free()
            if neighbours(self.size[0], cell, other) and self.day_if(self.boards, self.laid, other) == day - 1
        ]
        return [[cell] + way for other in before for way in self.ways_back(other)]

    def way(self, cell):
        day = self.day(cell)
        if day[0] < 0:
            return day
        # Above, left, right, below: this is the order of the numbers, too.
        found = min(self.ways_back(cell))
        return [len(found)] + found[::-1]

    def best(self):
        found = [(self.full_if(self.boards, self.laid | {cell}), cell) for cell in self.free()]
        found = sorted(pair for pair in found if pair[0] >= 0)
        return [found[0][1], found[0][0]] if found else [-33]

    def fewest(self, day):
        if day > 50:
            return [-22]
        apart = steps(*self.size, self.boards)
        free = sorted(self.free())
        near = {one: frozenset(other for other in free if apart[one, other] <= day) for one in free}
        for count in range(4):
            enough = [
                list(cells) for cells in itertools.combinations(free, count)
                if len(frozenset().union(*[near[cell] for cell in cells])) == len(free)
            ]
            if enough:
                return [count] + min(enough)
        return [-33]

    def without(self, cell):
        if cell not in self.laid:
            return [-2]
        return [self.full_if(self.boards, self.laid - {cell})]

    def if_block(self, cell):
        if not self.known(cell):
            return [-2]
        if cell in self.boards:
            return [-17]
        if cell in self.laid:
            return [-16]
        return [self.full_if(self.boards | {cell}, self.laid)]

    def areas(self):
        apart = steps(*self.size, self.boards)
        groups = {frozenset(other for other in self.free() if apart[cell, other] < FAR) for cell in self.free()}
        return [len(groups)] + [len(group) for group in sorted(groups, key=min)]

    def map(self):
        days = [self.day(cell)[0] for cell in range(self.size[0] * self.size[1])]
        return [len(days)] + [max(day, -1) + 1 for day in days]

    def grains(self):
        return [len(self.laid)] + sorted(self.laid)

    def state(self):
        return [*self.size, len(self.boards), len(self.laid), len(self.log)]


def some_cell(source, cells):
    if source.random() < 0.04:
        return source.choice((cells, cells + 1, 25, HIGHEST))
    return source.randrange(cells)


def some_calls(source):
    width = source.randint(1, 5)
    height = source.randint(1, 5)
    eager = source.choice(("block", "grain", "take", "clear", "back", "day"))
    calls = [("begin", width, height)]
    while len(calls) < 100:
        name = source.choice(CELL_CALLS + PLAIN_CALLS + DAY_CALLS + ("again", "block", "grain") + (eager,) * 6)
        if name == "again":
            if source.random() < 0.2:
                calls.append(("begin", source.randint(0, 6), source.randint(0, 6)))
        elif name in DAY_CALLS:
            calls.append((name, source.choice((0, 1, 2, 2, 3, 3, 4, 5, 8, 50, 51, HIGHEST))))
        elif name in CELL_CALLS:
            calls.append((name, some_cell(source, width * height)))
        else:
            calls.append(name)
    # Now and then the first begin comes late.
    turn = source.choice((0, 0, 0, 5))
    return calls[1:turn + 1] + calls[:1] + calls[turn + 1:]


class AgainstReference(unittest.TestCase):
    def test_many_lists(self):
        # A fixed seed: every run asks the same.
        source = random.Random(20)
        for _ in range(150):
            calls = some_calls(source)
            reference = Reference()
            self.assertEqual(ask(*calls), [reference.answer(call) for call in calls], calls)

    def test_every_bed_of_six_cells(self):
        # Each cell is free, blocked or has a grain, in all ways.
        for code in range(3 ** 6):
            states = [code // 3 ** cell % 3 for cell in range(6)]
            calls = [("begin", 3, 2)]
            calls += [(("block", "grain")[state - 1], cell) for cell, state in enumerate(states) if state > 0]
            calls += [(name, cell) for name in ("day", "way", "without", "if_block") for cell in range(7)]
            calls += [(name, day) for name in DAY_CALLS for day in range(6)]
            calls += [name for name in PLAIN_CALLS if name != "back"]
            reference = Reference()
            self.assertEqual(ask(*calls), [reference.answer(call) for call in calls], calls)
