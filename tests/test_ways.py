"""on_day and way."""

import unittest

from tests.calls import HIGHEST, ask, final, laid_out

# Rows of 4, a grain in 5, boards (#) in 6 and 9; the days are:
#   2 1 2 3
#   1 0 # 4
#   2 # 6 5
WALLED = laid_out(4, 3, (6, 9), (5,))


class OnDay(unittest.TestCase):
    def test_day_by_day(self):
        told = ask(*WALLED, *[("on_day", day) for day in range(7)])
        self.assertEqual(told[4:], [[1, 5], [2, 1, 4], [3, 0, 2, 8], [1, 3], [1, 7], [1, 11], [1, 10]])

    def test_a_day_beyond_the_last_one(self):
        for day in (7, 33, 50, 51, 4294967263, HIGHEST):
            self.assertEqual(final(*WALLED, ("on_day", day)), [0])

    def test_not_those_of_an_earlier_day(self):
        self.assertEqual(final(("begin", 5, 1), ("grain", 2), ("on_day", 1)), [2, 1, 3])
        self.assertEqual(final(("begin", 5, 1), ("grain", 2), ("on_day", 2)), [2, 0, 4])

    def test_on_day_0_the_cells_with_grains_rising(self):
        self.assertEqual(final(("begin", 5, 2), ("grain", 7), ("grain", 9), ("grain", 0), ("on_day", 0)), [3, 0, 7, 9])

    def test_rising_whichever_grain_is_near(self):
        self.assertEqual(final(("begin", 5, 2), ("grain", 9), ("grain", 0), ("on_day", 1)), [4, 1, 4, 5, 8])

    def test_without_grains(self):
        for day in (0, 1, 33, HIGHEST):
            self.assertEqual(final(("begin", 5, 5), ("on_day", day)), [0])

    def test_cells_that_are_never_run_through_are_not_told(self):
        told = ask(("begin", 5, 1), ("block", 2), ("grain", 0), *[("on_day", day) for day in (0, 1, 2, 3, 4, 33)])
        self.assertEqual(told[3:], [[1, 0], [1, 1], [0], [0], [0], [0]])


class Way(unittest.TestCase):
    def test_round_boards(self):
        self.assertEqual(final(*WALLED, ("way", 10)), [7, 5, 1, 2, 3, 7, 11, 10])

    def test_from_a_grain_to_the_cell(self):
        self.assertEqual(final(("begin", 5, 1), ("grain", 0), ("way", 3)), [4, 0, 1, 2, 3])
        self.assertEqual(final(("begin", 5, 1), ("grain", 4), ("way", 1)), [4, 4, 3, 2, 1])

    def test_a_cell_in_which_a_grain_lies(self):
        self.assertEqual(final(*WALLED, ("way", 5)), [1, 5])
        self.assertEqual(final(("begin", 3, 1), ("grain", 0), ("grain", 1), ("way", 1)), [1, 1])

    def test_a_cell_beside_a_grain(self):
        self.assertEqual(final(*WALLED, ("way", 4)), [2, 5, 4])

    def test_the_longest_way(self):
        boards = (5, 6, 7, 8, 16, 17, 18, 19)
        told = final(*laid_out(5, 5, boards, (0,)), ("way", 24))
        self.assertEqual(told, [17, 0, 1, 2, 3, 4, 9, 14, 13, 12, 11, 10, 15, 20, 21, 22, 23, 24])

    def test_no_such_cell(self):
        for cell in (12, 13, 25, 4294967263, HIGHEST):
            self.assertEqual(final(*WALLED, ("way", cell)), [-2])

    def test_blocked(self):
        self.assertEqual(final(*WALLED, ("way", 6)), [-16])

    def test_blocked_is_told_ahead_of_never(self):
        self.assertEqual(final(("begin", 2, 1), ("block", 1), ("way", 1)), [-16])

    def test_no_such_cell_is_told_ahead_of_never(self):
        self.assertEqual(final(("begin", 2, 1), ("way", 2)), [-2])

    def test_never(self):
        self.assertEqual(final(("begin", 2, 1), ("way", 1)), [-33])
        self.assertEqual(final(("begin", 3, 1), ("block", 1), ("grain", 0), ("way", 2)), [-33])


class TwoWaysAsShort(unittest.TestCase):
    def test_above_ahead_of_left(self):
        self.assertEqual(final(("begin", 2, 2), ("grain", 0), ("way", 3)), [3, 0, 1, 3])

    def test_above_ahead_of_right(self):
        self.assertEqual(final(("begin", 2, 2), ("grain", 1), ("way", 2)), [3, 1, 0, 2])

    def test_above_ahead_of_below(self):
        self.assertEqual(final(("begin", 1, 5), ("grain", 4), ("grain", 0), ("way", 2)), [3, 0, 1, 2])

    def test_left_ahead_of_right(self):
        self.assertEqual(final(("begin", 5, 1), ("grain", 4), ("grain", 0), ("way", 2)), [3, 0, 1, 2])

    def test_left_ahead_of_below(self):
        self.assertEqual(final(("begin", 2, 2), ("grain", 2), ("way", 1)), [3, 2, 0, 1])

    def test_right_ahead_of_below(self):
        self.assertEqual(final(("begin", 2, 2), ("grain", 3), ("way", 0)), [3, 3, 1, 0])
        self.assertEqual(final(*WALLED, ("way", 0)), [3, 5, 1, 0])

    def test_one_after_another_falls_away(self):
        for boards, first in (((), 1), ((1,), 3), ((1, 3), 5), ((1, 3, 5), 7)):
            grains = [cell for cell in (7, 5, 3, 1) if cell not in boards]
            self.assertEqual(final(*laid_out(3, 3, boards, grains), ("way", 4)), [2, first, 4])

    def test_at_each_cell_anew(self):
        self.assertEqual(final(("begin", 3, 3), ("grain", 0), ("way", 8)), [5, 0, 1, 2, 5, 8])
        self.assertEqual(final(("begin", 3, 3), ("grain", 6), ("way", 2)), [5, 6, 3, 0, 1, 2])

    def test_the_order_holds_back_from_the_cell_whichever_grain_it_leads_to(self):
        # From 12 the cell at the left comes first, and it leads to the greater grain.
        self.assertEqual(final(*laid_out(5, 5, (7,), (3, 21)), ("way", 12)), [4, 21, 16, 11, 12])

    def test_round_a_board(self):
        self.assertEqual(final(*laid_out(3, 3, (4,), (1,)), ("way", 7)), [5, 1, 0, 3, 6, 7])
        self.assertEqual(final(*laid_out(3, 3, (4,), (5,)), ("way", 3)), [5, 5, 2, 1, 0, 3])
