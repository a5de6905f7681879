"""Many lists of calls, against a second, slower way to the same answers."""

import random
import unittest

from tests.calls import HIGHEST, ask

CELL_CALLS = ("block", "clear", "grain", "take", "day")
PLAIN_CALLS = ("back", "full", "last")


class Reference:
    """Follows the document's words: sets of cells told by column and row, one set a day."""

    def __init__(self):
        self.size = None

    def answer(self, call):
        parts = (call,) if isinstance(call, str) else call
        if parts[0] != "begin" and self.size is None:
            return [-61]
        return getattr(self, parts[0])(*parts[1:])

    def begin(self, width, height):
        if not (1 <= width <= 5 and 1 <= height <= 5):
            return [-22]
        self.size = (width, height)
        self.boards = frozenset()
        self.laid = frozenset()
        self.log = []
        return [0]

    def known(self, cell):
        return cell in range(self.size[0] * self.size[1])

    def free(self):
        return {cell for cell in range(self.size[0] * self.size[1]) if cell not in self.boards}

    def keep(self):
        self.log.append((self.boards, self.laid))
        if len(self.log) > 10:
            self.log.pop(0)

    def block(self, cell):
        if not self.known(cell):
            return [-2]
        if cell in self.boards:
            return [-17]
        if cell in self.laid:
            return [-16]
        self.keep()
        self.boards = self.boards | {cell}
        return [len(self.boards)]

    def clear(self, cell):
        if cell not in self.boards:
            return [-2]
        self.keep()
        self.boards = self.boards - {cell}
        return [len(self.boards)]

    def grain(self, cell):
        if not self.known(cell):
            return [-2]
        if cell in self.boards:
            return [-16]
        if cell in self.laid:
            return [-17]
        if len(self.laid) == 6:
            return [-28]
        self.keep()
        self.laid = self.laid | {cell}
        return [len(self.laid)]

    def take(self, cell):
        if cell not in self.laid:
            return [-2]
        self.keep()
        self.laid = self.laid - {cell}
        return [len(self.laid)]

    def back(self):
        if not self.log:
            return [-2]
        self.boards, self.laid = self.log.pop()
        return [len(self.log)]

    def neighbours(self, one, other):
        row, column = divmod(one, self.size[0])
        other_row, other_column = divmod(other, self.size[0])
        return abs(row - other_row) + abs(column - other_column) == 1

    def by_day(self, day):
        reached = set(self.laid)
        # No way in a bed of 25 cells has more steps.
        for _ in range(min(day, 25)):
            reached |= {cell for cell in self.free() if any(self.neighbours(cell, other) for other in reached)}
        return reached

    def day(self, cell):
        if not self.known(cell):
            return [-2]
        if cell in self.boards:
            return [-16]
        return [next((day for day in range(26) if cell in self.by_day(day)), -33)]

    def full(self):
        return [next((day for day in range(26) if self.by_day(day) == self.free()), -33)]

    def run(self, day):
        cells = sorted(self.by_day(day))
        return [len(cells)] + cells

    def last(self):
        day = self.full()[0]
        if day < 0:
            return [day]
        cells = sorted(self.by_day(day) - (self.by_day(day - 1) if day > 0 else set()))
        return [len(cells)] + cells


def some_cell(source, cells):
    if source.random() < 0.04:
        return source.choice((cells, cells + 1, 25, HIGHEST))
    return source.randrange(cells)


def some_calls(source):
    width = source.randint(1, 5)
    height = source.randint(1, 5)
    eager = source.choice(("block", "grain", "take", "clear", "back", "day"))
    calls = [("begin", width, height)]
    while len(calls) < 100:
        name = source.choice(CELL_CALLS + PLAIN_CALLS + ("run", "run", "again", eager, eager, eager))
        if name == "again":
            if source.random() < 0.2:
                calls.append(("begin", source.randint(0, 6), source.randint(0, 6)))
        elif name == "run":
            calls.append((name, source.choice((0, 1, 2, 3, 4, 8, HIGHEST))))
        elif name in CELL_CALLS:
            calls.append((name, some_cell(source, width * height)))
        else:
            calls.append(name)
    # Now and then the first begin comes late.
    turn = source.choice((0, 0, 0, 5))
    return calls[1:turn + 1] + calls[:1] + calls[turn + 1:]


class AgainstReference(unittest.TestCase):
    def test_many_lists(self):
        # A fixed seed: every run asks the same.
        source = random.Random(20)
        for _ in range(150):
            calls = some_calls(source)
            reference = Reference()
            self.assertEqual(ask(*calls), [reference.answer(call) for call in calls], calls)

    def test_every_bed_of_six_cells(self):
        # Each cell is free, blocked or has a grain, in all ways.
        for code in range(3 ** 6):
            states = [code // 3 ** cell % 3 for cell in range(6)]
            calls = [("begin", 3, 2)]
            calls += [(("block", "grain")[state - 1], cell) for cell, state in enumerate(states) if state > 0]
            calls += [("day", cell) for cell in range(6)]
            calls += ["full", "last"] + [("run", day) for day in range(6)]
            reference = Reference()
            self.assertEqual(ask(*calls), [reference.answer(call) for call in calls], calls)
