"""best, fewest, without and if_block."""

import unittest

from tests.calls import HIGHEST, ask, final, laid_out


class Best(unittest.TestCase):
    def test_in_the_open(self):
        self.assertEqual(final(("begin", 5, 5), "best"), [12, 4])
        self.assertEqual(final(("begin", 3, 1), "best"), [1, 1])

    def test_beside_grains_that_lie_there(self):
        self.assertEqual(final(("begin", 5, 1), ("grain", 0), "best"), [3, 1])
        self.assertEqual(final(("begin", 5, 1), ("grain", 0), ("grain", 4), "best"), [1, 1])

    def test_round_boards(self):
        # Rows of 3, boards in 4 and 5: from 3 it is 3 days to 2 and to 8.
        self.assertEqual(final(*laid_out(3, 3, (4, 5), ()), "best"), [3, 3])

    def test_several_as_good(self):
        self.assertEqual(final(("begin", 4, 1), "best"), [1, 2])
        self.assertEqual(final(("begin", 5, 1), ("grain", 2), "best"), [0, 2])

    def test_a_cell_in_which_a_grain_lies(self):
        # Two arms of two cells from cell 0: one grain more can't make both shorter.
        self.assertEqual(final(*laid_out(3, 3, (4, 5, 7, 8), (0,)), "best"), [0, 2])
        self.assertEqual(final(("begin", 1, 1), ("grain", 0), "best"), [0, 0])
        self.assertEqual(final(("begin", 3, 1), ("grain", 2), ("grain", 1), ("grain", 0), "best"), [0, 0])

    def test_six_grains_already(self):
        six = laid_out(5, 5, (), (0, 2, 4, 20, 22, 24))
        self.assertEqual(ask(*six, "full", "best", ("grain", 7), "best")[7:], [[3], [7, 2], [-28], [7, 2]])

    def test_six_grains_in_all_free_cells(self):
        self.assertEqual(final(*laid_out(3, 2, (), range(6)), "best"), [0, 0])

    def test_six_grains_and_an_area_without_one(self):
        # The area of cell 9 has no grain; a seventh there would let all be run through.
        self.assertEqual(final(*laid_out(5, 2, (8, 4), (0, 1, 2, 5, 6, 7)), "best"), [9, 1])

    def test_no_free_cell(self):
        self.assertEqual(final(("begin", 1, 1), ("block", 0), "best"), [-33])
        self.assertEqual(final(*laid_out(3, 2, range(6), ()), "best"), [-33])

    def test_one_area_without_a_grain(self):
        self.assertEqual(final(*laid_out(5, 1, (1,), (0,)), "best"), [3, 1])
        self.assertEqual(final(*laid_out(3, 1, (1,), (2,)), "best"), [0, 0])

    def test_two_areas_without_a_grain(self):
        self.assertEqual(final(*laid_out(3, 1, (1,), ()), "best"), [-33])
        self.assertEqual(final(*laid_out(5, 1, (1, 3), (0,)), "best"), [-33])


class Fewest(unittest.TestCase):
    def test_one(self):
        told = ask(("begin", 5, 1), *[("fewest", day) for day in (2, 3, 4, 5, 50)])
        self.assertEqual(told[1:], [[1, 2], [1, 1], [1, 0], [1, 0], [1, 0]])

    def test_two(self):
        self.assertEqual(final(("begin", 5, 1), ("fewest", 1)), [2, 0, 3])
        self.assertEqual(final(("begin", 2, 1), ("fewest", 0)), [2, 0, 1])

    def test_three(self):
        self.assertEqual(final(("begin", 3, 1), ("fewest", 0)), [3, 0, 1, 2])
        self.assertEqual(final(("begin", 3, 3), ("fewest", 1)), [3, 0, 2, 7])
        self.assertEqual(final(*laid_out(5, 1, (1, 3), ()), ("fewest", 50)), [3, 0, 2, 4])

    def test_three_are_not_enough(self):
        self.assertEqual(final(("begin", 4, 1), ("fewest", 0)), [-33])
        self.assertEqual(final(("begin", 4, 3), ("fewest", 1)), [-33])
        self.assertEqual(final(("begin", 5, 5), ("fewest", 2)), [-33])
        # Four areas.
        self.assertEqual(final(*laid_out(4, 2, (1, 3, 4, 6), ()), ("fewest", 50)), [-33])

    def test_day_by_day_in_the_open(self):
        told = ask(("begin", 5, 5), *[("fewest", day) for day in range(10)])
        self.assertEqual(
            told[1:],
            [[-33], [-33], [-33], [2, 2, 17], [1, 12], [1, 7], [1, 2], [1, 1], [1, 0], [1, 0]],
        )

    def test_day_0(self):
        self.assertEqual(final(("begin", 1, 1), ("fewest", 0)), [1, 0])
        self.assertEqual(final(*laid_out(3, 2, (0, 2, 4), ()), ("fewest", 0)), [3, 1, 3, 5])

    def test_days_50_and_51(self):
        told = ask(("begin", 5, 5), ("fewest", 50), ("fewest", 51), ("fewest", 52), ("fewest", HIGHEST))
        self.assertEqual(told[1:], [[1, 0], [-22], [-22], [-22]])

    def test_above_50_is_told_ahead_of_never(self):
        told = ask(*laid_out(4, 2, (1, 3, 4, 6), ()), ("fewest", 50), ("fewest", 51))
        self.assertEqual(told[-2:], [[-33], [-22]])

    def test_no_free_cell(self):
        told = ask(*laid_out(2, 1, (0, 1), ()), *[("fewest", day) for day in (0, 1, 50, 51)])
        self.assertEqual(told[3:], [[0], [0], [0], [-22]])

    def test_several_sets_as_good(self):
        self.assertEqual(final(("begin", 2, 2), ("fewest", 1)), [2, 0, 1])
        self.assertEqual(final(("begin", 4, 1), ("fewest", 2)), [1, 1])

    def test_the_lesser_cell_where_two_first_differ(self):
        # {1, 2} is enough, too, and so is {0, 2, 3}: both with a lesser sum and a lesser last cell.
        self.assertEqual(final(*laid_out(3, 2, (3,), ()), ("fewest", 1)), [2, 0, 5])
        self.assertEqual(final(*laid_out(4, 2, (5,), ()), ("fewest", 1)), [3, 0, 1, 7])

    def test_fewer_come_ahead_of_a_lesser_cell(self):
        # {0, 3} is enough, too, but has one grain more than {2}.
        self.assertEqual(final(("begin", 5, 2), ("fewest", 3)), [1, 2])
        self.assertEqual(final(("begin", 5, 2), ("fewest", 2)), [2, 0, 3])

    def test_blocked_cells_hold_no_grain_and_need_none(self):
        self.assertEqual(final(*laid_out(5, 1, (0, 4), ()), ("fewest", 1)), [1, 2])
        self.assertEqual(final(*laid_out(3, 3, (4,), ()), ("fewest", 4)), [1, 0])
        self.assertEqual(final(*laid_out(3, 3, (4,), ()), ("fewest", 3)), [2, 0, 1])

    def test_grains_that_lie_there_count_for_nothing(self):
        for grains in ((), (4,), (0, 1, 2, 3, 4)):
            told = ask(*laid_out(5, 1, (), grains), *[("fewest", day) for day in range(5)])
            self.assertEqual(told[-5:], [[-33], [2, 0, 3], [1, 2], [1, 1], [1, 0]])


class Without(unittest.TestCase):
    def test_the_only_grain(self):
        self.assertEqual(final(("begin", 3, 1), ("grain", 1), ("without", 1)), [-33])
        self.assertEqual(final(("begin", 1, 1), ("grain", 0), ("without", 0)), [-33])

    def test_one_of_several(self):
        told = ask(*laid_out(5, 1, (), (0, 1, 4)), *[("without", cell) for cell in (0, 1, 4)], "full")
        self.assertEqual(told[4:], [[1], [2], [3], [1]])

    def test_the_only_one_of_its_area(self):
        told = ask(*laid_out(5, 1, (2,), (0, 3, 4)), *[("without", cell) for cell in (0, 3, 4)])
        self.assertEqual(told[5:], [[-33], [1], [1]])

    def test_another_area_has_none(self):
        self.assertEqual(final(*laid_out(4, 1, (2,), (0, 1)), ("without", 0)), [-33])

    def test_no_such_cell(self):
        for cell in (6, 7, 25, 4294967263, HIGHEST):
            self.assertEqual(final(("begin", 3, 2), ("grain", 0), ("without", cell)), [-2])

    def test_no_grain_is_there(self):
        told = ask(*laid_out(3, 2, (1,), (0, 5)), ("without", 1), ("without", 2), ("take", 5), ("without", 5))
        self.assertEqual(told[4:], [[-2], [-2], [1], [-2]])

    def test_no_grain_is_told_ahead_of_never(self):
        self.assertEqual(final(("begin", 3, 2), ("without", 0)), [-2])


class IfBlock(unittest.TestCase):
    def test_a_cell_on_the_only_way(self):
        self.assertEqual(final(("begin", 3, 1), ("grain", 0), ("if_block", 1)), [-33])

    def test_a_longer_way_round(self):
        told = ask(("begin", 3, 2), ("grain", 0), "full", *[("if_block", cell) for cell in range(1, 6)])
        self.assertEqual(told[2:], [[3], [4], [3], [3], [3], [2]])

    def test_the_cell_that_comes_last(self):
        self.assertEqual(final(("begin", 5, 1), ("grain", 0), ("if_block", 4)), [3])

    def test_the_only_free_cell(self):
        self.assertEqual(final(("begin", 1, 1), ("if_block", 0)), [0])
        self.assertEqual(final(("begin", 2, 1), ("block", 0), ("if_block", 1)), [0])

    def test_the_only_free_cell_without_a_grain(self):
        self.assertEqual(final(("begin", 2, 1), ("grain", 1), ("if_block", 0)), [0])

    def test_it_parts_an_area(self):
        self.assertEqual(final(("begin", 5, 1), ("grain", 0), ("if_block", 2)), [-33])
        self.assertEqual(final(("begin", 5, 1), ("grain", 0), ("grain", 4), ("if_block", 2)), [1])
        self.assertEqual(final(*laid_out(3, 3, (1, 7), (3,)), ("if_block", 4)), [-33])

    def test_an_area_without_a_grain_is_gone_with_its_only_cell(self):
        self.assertEqual(ask(*laid_out(4, 1, (2,), (0,)), "full", ("if_block", 3), "full")[3:], [[-33], [1], [-33]])

    def test_no_grains(self):
        self.assertEqual(final(("begin", 2, 1), ("if_block", 0)), [-33])

    def test_no_such_cell(self):
        for cell in (6, 7, 25, 4294967263, HIGHEST):
            self.assertEqual(final(("begin", 3, 2), ("grain", 0), ("if_block", cell)), [-2])
            self.assertEqual(final(("begin", 3, 2), ("if_block", cell)), [-2])

    def test_blocked(self):
        self.assertEqual(final(("begin", 3, 2), ("block", 1), ("if_block", 1)), [-17])

    def test_a_grain_is_there(self):
        self.assertEqual(final(("begin", 3, 2), ("grain", 1), ("if_block", 1)), [-16])

    def test_a_refusal_is_told_ahead_of_never(self):
        told = ask(*laid_out(5, 1, (1, 3), (0,)), ("if_block", 5), ("if_block", 1), ("if_block", 0), ("if_block", 2))
        self.assertEqual(told[4:], [[-2], [-17], [-16], [-33]])
