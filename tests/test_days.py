"""day, full, run and last."""

import unittest

from tests.calls import HIGHEST, ask, final

# Rows of 4, a grain in 5, boards (#) in 6 and 9; the days are:
#   2 1 2 3
#   1 0 # 4
#   2 # 6 5
WALLED = [("begin", 4, 3), ("grain", 5), ("block", 6), ("block", 9)]


class Day(unittest.TestCase):
    def test_in_the_open(self):
        told = ask(("begin", 3, 3), ("grain", 4), *[("day", cell) for cell in range(9)])
        self.assertEqual(told[2:], [[2], [1], [2], [1], [0], [1], [2], [1], [2]])

    def test_round_boards(self):
        told = ask(*WALLED, *[("day", cell) for cell in range(12)])
        self.assertEqual(
            told[4:],
            [[2], [1], [2], [3], [1], [0], [-16], [4], [2], [-16], [6], [5]],
        )

    def test_the_nearest_grain_counts(self):
        told = ask(("begin", 5, 1), ("grain", 0), ("grain", 4), *[("day", cell) for cell in range(5)])
        self.assertEqual(told[3:], [[0], [1], [2], [1], [0]])

    def test_no_such_cell(self):
        for cell in (12, 13, 25, 4294967290, HIGHEST):
            self.assertEqual(final(*WALLED, ("day", cell)), [-2])

    def test_blocked_is_told_ahead_of_never(self):
        self.assertEqual(final(("begin", 2, 1), ("block", 1), ("day", 1)), [-16])

    def test_never(self):
        told = ask(("begin", 3, 1), ("day", 2), ("block", 1), ("grain", 0), ("day", 2), ("day", 0))
        self.assertEqual(told, [[0], [-33], [1], [1], [-33], [0]])

    def test_the_longest_way(self):
        boards = [5, 6, 7, 8, 16, 17, 18, 19]
        told = ask(("begin", 5, 5), *[("block", cell) for cell in boards], ("grain", 0), ("day", 24), "full", "last")
        self.assertEqual(told[-3:], [[16], [16], [1, 24]])


class Full(unittest.TestCase):
    def test_in_the_open(self):
        self.assertEqual(final(("begin", 3, 3), ("grain", 4), "full"), [2])
        self.assertEqual(final(("begin", 5, 5), ("grain", 0), "full"), [8])

    def test_round_boards(self):
        self.assertEqual(final(*WALLED, "full"), [6])

    def test_never(self):
        self.assertEqual(final(("begin", 2, 2), "full"), [-33])
        self.assertEqual(final(("begin", 3, 1), ("grain", 0), ("block", 1), "full"), [-33])

    def test_a_grain_in_every_free_cell(self):
        self.assertEqual(final(("begin", 3, 1), ("grain", 0), ("grain", 2), ("block", 1), "full"), [0])


class Run(unittest.TestCase):
    def test_day_by_day(self):
        told = ask(*WALLED, *[("run", day) for day in range(7)])
        self.assertEqual(told[4:], [
            [1, 5],
            [3, 1, 4, 5],
            [6, 0, 1, 2, 4, 5, 8],
            [7, 0, 1, 2, 3, 4, 5, 8],
            [8, 0, 1, 2, 3, 4, 5, 7, 8],
            [9, 0, 1, 2, 3, 4, 5, 7, 8, 11],
            [10, 0, 1, 2, 3, 4, 5, 7, 8, 10, 11],
        ])

    def test_a_day_beyond_the_last_one(self):
        everything = [10, 0, 1, 2, 3, 4, 5, 7, 8, 10, 11]
        for day in (7, 50, 51, 4294967262, HIGHEST):
            self.assertEqual(final(*WALLED, ("run", day)), everything)

    def test_grains_are_told_rising(self):
        told = ask(("begin", 5, 2), ("grain", 7), ("grain", 9), ("grain", 0), ("run", 0))
        self.assertEqual(told[-1], [3, 0, 7, 9])

    def test_without_grains(self):
        for day in (0, 1, HIGHEST):
            self.assertEqual(final(("begin", 5, 5), ("run", day)), [0])

    def test_cells_that_are_never_run_through_are_not_told(self):
        for day in (1, 33, HIGHEST):
            self.assertEqual(final(("begin", 5, 1), ("block", 2), ("grain", 0), ("run", day)), [2, 0, 1])


class Last(unittest.TestCase):
    def test_one(self):
        self.assertEqual(final(*WALLED, "last"), [1, 10])

    def test_several_rising(self):
        self.assertEqual(final(("begin", 3, 3), ("grain", 4), "last"), [4, 0, 2, 6, 8])

    def test_only_those_that_come_last(self):
        self.assertEqual(final(("begin", 4, 1), ("grain", 1), "last"), [1, 3])

    def test_on_day_0_the_cells_with_grains(self):
        self.assertEqual(final(("begin", 3, 1), ("grain", 2), ("grain", 0), ("block", 1), "last"), [2, 0, 2])

    def test_never(self):
        self.assertEqual(final(("begin", 2, 2), "last"), [-33])
        self.assertEqual(final(("begin", 3, 1), ("grain", 0), ("block", 1), "last"), [-33])
