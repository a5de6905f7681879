"""areas, map, grains and state."""

import unittest

from tests.calls import ask, final, laid_out


class Areas(unittest.TestCase):
    def test_one(self):
        self.assertEqual(final(("begin", 5, 5), "areas"), [1, 25])
        self.assertEqual(final(("begin", 1, 1), "areas"), [1, 1])

    def test_by_their_least_cells(self):
        self.assertEqual(final(*laid_out(5, 1, (1,), ()), "areas"), [2, 1, 3])
        self.assertEqual(final(*laid_out(5, 1, (3,), ()), "areas"), [2, 3, 1])
        # Rows of 4; the areas are 0, then 2 with 3 and 7, then 5.
        self.assertEqual(final(*laid_out(4, 2, (1, 4, 6), ()), "areas"), [3, 1, 3, 1])

    def test_the_least_cell_and_not_the_last_one(self):
        # The area round the other one begins earlier and ends later.
        self.assertEqual(final(*laid_out(5, 5, (7, 11, 13, 17), ()), "areas"), [2, 20, 1])

    def test_none(self):
        self.assertEqual(final(*laid_out(3, 2, range(6), ()), "areas"), [0])

    def test_several_behind_boards(self):
        self.assertEqual(final(*laid_out(3, 3, (1, 3, 5, 7), ()), "areas"), [5, 1, 1, 1, 1, 1])
        self.assertEqual(final(*laid_out(5, 2, (2, 7), ()), "areas"), [2, 4, 4])

    def test_most(self):
        boards = range(1, 25, 2)
        self.assertEqual(final(*laid_out(5, 5, boards, ()), "areas"), [13] + [1] * 13)

    def test_an_area_that_comes_together_further_down(self):
        self.assertEqual(final(*laid_out(3, 2, (1,), ()), "areas"), [1, 5])
        self.assertEqual(final(*laid_out(5, 3, (1, 6, 3, 8), ()), "areas"), [1, 11])

    def test_the_end_of_a_row_is_not_beside_the_next(self):
        self.assertEqual(final(*laid_out(2, 2, (0, 3), ()), "areas"), [2, 1, 1])

    def test_grains_do_not_matter(self):
        self.assertEqual(final(*laid_out(5, 1, (1,), (0, 2, 3)), "areas"), [2, 1, 3])

    def test_after_a_board_is_gone(self):
        told = ask(*laid_out(5, 1, (1, 3), ()), "areas", ("clear", 3), "areas", "back", "areas")
        self.assertEqual(told[3:], [[3, 1, 1, 1], [1], [2, 1, 3], [2], [3, 1, 1, 1]])


class Map(unittest.TestCase):
    def test_in_the_open(self):
        self.assertEqual(final(("begin", 3, 3), ("grain", 4), "map"), [9, 3, 2, 3, 2, 1, 2, 3, 2, 3])

    def test_round_boards(self):
        told = final(*laid_out(4, 3, (6, 9), (5,)), "map")
        self.assertEqual(told, [12, 3, 2, 3, 4, 2, 1, 0, 5, 3, 0, 7, 6])

    def test_never(self):
        self.assertEqual(final(("begin", 2, 2), "map"), [4, 0, 0, 0, 0])
        self.assertEqual(final(*laid_out(5, 1, (1,), (0,)), "map"), [5, 1, 0, 0, 0, 0])

    def test_all_blocked(self):
        self.assertEqual(final(*laid_out(2, 1, (0, 1), ()), "map"), [2, 0, 0])

    def test_all_cells_of_every_size(self):
        for width in range(1, 6):
            for height in range(1, 6):
                told = final(("begin", width, height), ("grain", 0), "map")
                days = [row + column + 1 for row in range(height) for column in range(width)]
                self.assertEqual(told, [width * height] + days)


class Grains(unittest.TestCase):
    def test_none(self):
        self.assertEqual(final(("begin", 5, 5), "grains"), [0])

    def test_rising_whatever_the_order(self):
        for order in ((0, 7, 9), (9, 7, 0), (7, 9, 0), (7, 0, 9)):
            self.assertEqual(final(*laid_out(5, 2, (), order), "grains"), [3, 0, 7, 9])

    def test_six(self):
        self.assertEqual(final(*laid_out(5, 5, (), (24, 3, 20, 11, 4, 0)), "grains"), [6, 0, 3, 4, 11, 20, 24])

    def test_after_takes_and_backs(self):
        told = ask(
            *laid_out(5, 2, (), (7, 0, 9)), ("take", 7), "grains", "back", "grains",
            ("take", 9), ("grain", 3), "grains", ("grain", 3), "grains", ("begin", 5, 2), "grains",
        )
        self.assertEqual(told[4:], [
            [2], [2, 0, 9], [3], [3, 0, 7, 9], [2], [3], [3, 0, 3, 7], [-17], [3, 0, 3, 7], [0], [0],
        ])


class State(unittest.TestCase):
    def test_of_a_new_bed(self):
        for width in range(1, 6):
            for height in range(1, 6):
                self.assertEqual(final(("begin", width, height), "state"), [width, height, 0, 0, 0])

    def test_after_each_change(self):
        told = ask(
            ("begin", 4, 3), ("block", 6), "state", ("block", 9), "state", ("grain", 5), "state", ("clear", 6), "state",
            ("grain", 6), "state", ("take", 5), "state",
        )
        self.assertEqual(told[2::2], [
            [4, 3, 1, 0, 1], [4, 3, 2, 0, 2], [4, 3, 2, 1, 3], [4, 3, 1, 1, 4], [4, 3, 1, 2, 5], [4, 3, 1, 1, 6],
        ])

    def test_after_some_were_taken_back(self):
        told = ask(
            ("begin", 4, 3), ("block", 6), ("grain", 5), ("clear", 6), ("take", 5),
            "back", "state", "back", "state", ("grain", 0), "state", "back", "state", "back", "state", "back", "state",
            "back", "state",
        )
        self.assertEqual(told[6::2], [
            [4, 3, 0, 1, 3], [4, 3, 1, 1, 2], [4, 3, 1, 2, 3], [4, 3, 1, 1, 2], [4, 3, 1, 0, 1], [4, 3, 0, 0, 0],
            [4, 3, 0, 0, 0],
        ])

    def test_at_most_ten_can_be_taken_back(self):
        for changes, left in ((9, 9), (10, 10), (11, 10), (20, 10)):
            self.assertEqual(final(*laid_out(5, 5, range(changes), ()), "state"), [5, 5, changes, 0, left])
        told = final(*laid_out(5, 5, range(12), ()), "back", "back", "back", "state")
        self.assertEqual(told, [5, 5, 9, 0, 7])

    def test_after_a_new_begin(self):
        self.assertEqual(final(*laid_out(4, 3, (1, 2), (0,)), ("begin", 2, 5), "state"), [2, 5, 0, 0, 0])

    def test_after_a_refused_begin(self):
        self.assertEqual(final(*laid_out(4, 3, (1, 2), (0,)), ("begin", 2, 6), "state"), [4, 3, 2, 1, 3])
