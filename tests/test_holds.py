"""What holds over the whole program, over many drawn beds."""

import itertools
import random
import unittest

from tests.calls import ask, final, laid_out

NEVER = -33


def beside(width, height, cell):
    row, column = divmod(cell, width)
    around = ((row - 1, column), (row, column - 1), (row, column + 1), (row + 1, column))
    return [r * width + c for r, c in around if 0 <= r < height and 0 <= c < width]


class Drawn:
    """A bed, and walks over its free cells, step by step."""

    def __init__(self, source):
        self.width = source.randint(1, 5)
        self.height = source.randint(1, 5)
        cells = range(self.width * self.height)
        share = source.choice((0, 0.1, 0.2, 0.3, 0.4, 0.6, 1))
        self.boards = [cell for cell in cells if source.random() < share]
        self.free = [cell for cell in cells if cell not in self.boards]
        most = min(len(self.free), source.choice((0, 1, 2, 3, 6)))
        self.grains = source.sample(self.free, most)

    def calls(self):
        return laid_out(self.width, self.height, self.boards, self.grains)

    def beside(self, cell):
        return [other for other in beside(self.width, self.height, cell) if other in self.free]

    def first_ends(self, starts):
        """Of each cell the fewest steps with which a walk from one of the starts ends there."""
        first = {}
        ends = set(starts)
        for count in range(26):
            for cell in ends:
                first.setdefault(cell, count)
            ends = {other for cell in ends for other in self.beside(cell)}
        return first

    def full(self, starts):
        first = self.first_ends(starts)
        return max(first.values(), default=0) if len(first) == len(self.free) else NEVER

    def groups(self):
        """The areas: each free cell by itself at first, then joined with those beside it."""
        label = {cell: cell for cell in self.free}
        for one in self.free:
            for other in self.beside(one):
                old, new = max(label[one], label[other]), min(label[one], label[other])
                label = {cell: new if mark == old else mark for cell, mark in label.items()}
        return [[cell for cell in self.free if label[cell] == mark] for mark in sorted(set(label.values()))]


def beds(seed, count):
    source = random.Random(seed)
    return [Drawn(source) for _ in range(count)]


def later(day):
    """A day as a number to compare: never is later than any day."""
    return 1000 if day == NEVER else day


class Holds(unittest.TestCase):
    def test_a_a_cell_is_run_through_just_then(self):
        for bed in beds(1, 200):
            first = bed.first_ends(bed.grains)
            told = ask(*bed.calls(), *[("day", cell) for cell in bed.free], "map")
            days = [first.get(cell, NEVER) for cell in bed.free]
            self.assertEqual([answer[0] for answer in told[-1 - len(bed.free):-1]], days)
            cells = range(bed.width * bed.height)
            self.assertEqual(told[-1][1:], [first[cell] + 1 if cell in first else 0 for cell in cells])

    def test_a_the_way_told_is_such_a_walk(self):
        for bed in beds(2, 200):
            first = bed.first_ends(bed.grains)
            told = ask(*bed.calls(), *[("way", cell) for cell in bed.free])
            for cell, answer in zip(bed.free, told[len(told) - len(bed.free):]):
                if cell not in first:
                    self.assertEqual(answer, [NEVER])
                    continue
                way = answer[1:]
                self.assertEqual([answer[0], len(way)], [first[cell] + 1] * 2)
                self.assertIn(way[0], bed.grains)
                self.assertEqual(way[-1], cell)
                for one, other in zip(way, way[1:]):
                    self.assertIn(other, bed.beside(one))

    def test_a_each_day_has_its_cells(self):
        for bed in beds(3, 100):
            first = bed.first_ends(bed.grains)
            told = ask(*bed.calls(), *[(name, day) for day in range(26) for name in ("run", "on_day")])[-52:]
            for day in range(26):
                by = sorted(cell for cell in first if first[cell] <= day)
                on = sorted(cell for cell in first if first[cell] == day)
                self.assertEqual(told[2 * day:2 * day + 2], [[len(by)] + by, [len(on)] + on])

    def test_b_a_grain_more_is_never_later(self):
        for bed in beds(4, 60):
            if len(bed.grains) == 6:
                bed.grains.pop()
            before = ask(*bed.calls(), "full", "map", "best")[-3:]
            soonest = later(before[2][0] if len(before[2]) == 1 else before[2][1])
            for cell in bed.free:
                # Where a grain lies already the call is refused, and all stays as it is.
                after = ask(*bed.calls(), ("grain", cell), "full", "map")[-2:]
                self.assertLessEqual(later(after[0][0]), later(before[0][0]))
                for now, then in zip(after[1][1:], before[1][1:]):
                    self.assertLessEqual(later(now - 1 if now else NEVER), later(then - 1 if then else NEVER))
                self.assertGreaterEqual(later(after[0][0]), soonest)

    def test_b_none_helps_more_than_the_best(self):
        for bed in beds(5, 150):
            told = final(*bed.calls(), "best")
            days = [(later(bed.full(bed.grains + [cell])), cell) for cell in bed.free]
            day, cell = min(days, default=(1000, None))
            self.assertEqual(told, [NEVER] if day == 1000 else [cell, day])

    def test_b_a_grain_less_is_never_sooner(self):
        for bed in beds(6, 150):
            told = ask(*bed.calls(), "full", *[("without", cell) for cell in bed.grains])
            full = told[len(told) - len(bed.grains) - 1][0]
            for cell, answer in zip(bed.grains, told[len(told) - len(bed.grains):]):
                self.assertEqual(answer, [bed.full([other for other in bed.grains if other != cell])])
                self.assertGreaterEqual(later(answer[0]), later(full))

    def test_c_no_fewer_grains_are_enough(self):
        for bed in beds(7, 80):
            from_each = {cell: bed.first_ends([cell]) for cell in bed.free}
            for day in (0, 1, 2, 3, 5, 50):
                near = {
                    cell: sum(1 << other for other in bed.free if from_each[cell].get(other, 99) <= day)
                    for cell in bed.free
                }
                self.check_fewest(bed, day, near)

    def check_fewest(self, bed, day, near):
        told = final(*bed.calls(), ("fewest", day))
        wanted = sum(1 << cell for cell in bed.free)
        fewer = range(4) if told == [NEVER] else range(told[0])
        for count in fewer:
            for cells in itertools.combinations(bed.free, count):
                reached = 0
                for cell in cells:
                    reached |= near[cell]
                self.assertNotEqual(reached, wanted, (cells, day))
        if told != [NEVER]:
            self.assertEqual(told[0], len(told) - 1)
            full = final(*laid_out(bed.width, bed.height, bed.boards, told[1:]), "full")
            self.assertIn(full[0], range(day + 1))

    def test_d_all_is_run_through_just_if_each_area_has_a_grain(self):
        seen = set()
        for bed in beds(8, 300):
            groups = bed.groups()
            told = ask(*bed.calls(), "full", "areas", "last")[-3:]
            each = all(any(cell in bed.grains for cell in group) for group in groups)
            self.assertEqual(told[0] != [NEVER], each)
            self.assertEqual(told[2] != [NEVER], each)
            self.assertEqual(told[1], [len(groups)] + [len(group) for group in groups])
            self.assertEqual(told[0], [bed.full(bed.grains)])
            seen.add((each, len(groups) > 1))
        self.assertEqual(len(seen), 4)

    def test_d_were_a_cell_blocked_is_as_if_it_is(self):
        for bed in beds(9, 100):
            for cell in bed.free:
                if cell in bed.grains:
                    continue
                asked = final(*bed.calls(), ("if_block", cell))
                self.assertEqual(asked, final(*bed.calls(), ("block", cell), "full"))
