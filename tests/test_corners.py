import unittest

from tests.calls import HIGHEST, ask, final, laid_out


class Corners(unittest.TestCase):
    def test_a_bed_of_one_cell(self):
        told = ask(
            ("begin", 1, 1), "full", "last", ("run", 9), ("day", 0), ("grain", 0), "full", "last", ("run", 0),
            ("day", 0), ("day", 1), ("block", 0), ("take", 0), ("block", 0), "full", "last", ("run", 0), ("day", 0),
        )
        self.assertEqual(told, [
            [0], [-33], [-33], [0], [-33], [1], [0], [1, 0], [1, 0],
            [0], [-2], [-16], [0], [1], [0], [0], [0], [-16],
        ])

    def test_one_row(self):
        told = ask(("begin", 5, 1), ("grain", 1), *[("day", cell) for cell in range(6)], "full", "last", ("run", 1))
        self.assertEqual(told[2:], [[1], [0], [1], [2], [3], [-2], [3], [1, 4], [3, 0, 1, 2]])

    def test_one_cell_in_a_row(self):
        told = ask(("begin", 1, 5), ("grain", 1), *[("day", cell) for cell in range(6)], "full", "last", ("run", 1))
        self.assertEqual(told[2:], [[1], [0], [1], [2], [3], [-2], [3], [1, 4], [3, 0, 1, 2]])

    def test_all_cells_blocked(self):
        for width, height in ((1, 1), (5, 1), (2, 3), (5, 5)):
            cells = width * height
            blocks = [("block", cell) for cell in range(cells)]
            told = ask(("begin", width, height), *blocks, "full", "last", ("run", 0), ("run", HIGHEST), ("grain", 0))
            self.assertEqual(told[1:], [[count + 1] for count in range(cells)] + [[0], [0], [0], [0], [-16]])

    def test_no_grains(self):
        told = ask(("begin", 5, 5), "full", "last", ("run", HIGHEST), *[("day", cell) for cell in range(25)])
        self.assertEqual(told[1:], [[-33], [-33], [0]] + [[-33]] * 25)

    def test_six_grains_and_one_more(self):
        six = [("grain", cell) for cell in (0, 2, 4, 20, 22, 24)]
        told = ask(("begin", 5, 5), *six, ("grain", 12), ("day", 12), ("run", 0), "full", "last")
        self.assertEqual(told[7:], [[-28], [2], [6, 0, 2, 4, 20, 22, 24], [3], [2, 11, 13]])

    def test_a_grain_in_each_corner(self):
        corners = [("grain", cell) for cell in (24, 20, 4, 0)]
        told = ask(("begin", 5, 5), *corners, ("run", 0), ("run", 1), "full", "last")
        self.assertEqual(told[5:], [
            [4, 0, 4, 20, 24],
            [12, 0, 1, 3, 4, 5, 9, 15, 19, 20, 21, 23, 24],
            [4],
            [1, 12],
        ])

    def test_an_area_behind_boards(self):
        behind = [("begin", 3, 3), ("block", 5), ("block", 7), ("grain", 0)]
        told = ask(*behind, "full", "last", ("day", 8), ("run", HIGHEST))
        self.assertEqual(told[4:], [[-33], [-33], [-33], [6, 0, 1, 2, 3, 4, 6]])
        told = ask(*behind, ("grain", 8), "full", "last", ("day", 8))
        self.assertEqual(told[4:], [[2], [2], [3, 2, 4, 6], [0]])

    def test_boards_do_not_let_threads_by_at_their_corners(self):
        self.assertEqual(final(("begin", 2, 2), ("block", 1), ("block", 2), ("grain", 0), ("day", 3)), [-33])

    def test_the_last_cell_of_a_row_and_the_first_of_the_next(self):
        for width in range(2, 6):
            told = ask(("begin", width, 2), ("grain", width - 1), ("day", width), ("take", width - 1),
                       ("grain", width), ("day", width - 1))
            self.assertEqual([told[2], told[5]], [[width], [width]])

    def test_no_thread_goes_round_from_a_row_to_the_next(self):
        walled = [("begin", 2, 2), ("block", 0), ("block", 3)]
        self.assertEqual(final(*walled, ("grain", 1), ("day", 2)), [-33])
        self.assertEqual(final(*walled, ("grain", 2), ("day", 1)), [-33])

    def test_no_thread_goes_round_from_the_top_to_the_bottom(self):
        self.assertEqual(final(("begin", 1, 5), ("block", 2), ("grain", 0), ("day", 4)), [-33])
        self.assertEqual(final(("begin", 1, 5), ("block", 2), ("grain", 4), ("day", 0)), [-33])

    def test_two_ways_as_short(self):
        told = ask(("begin", 3, 3), ("block", 4), ("grain", 0), ("day", 8), "last", ("block", 1), ("day", 8), "last")
        self.assertEqual(told[3:], [[4], [1, 8], [2], [4], [1, 2]])

    def test_a_cell_blocked_on_the_only_way(self):
        told = ask(
            ("begin", 5, 1), ("grain", 0), "full", ("block", 2), "full", ("day", 1), ("day", 3), ("run", 9),
            ("clear", 2), "full", "last",
        )
        self.assertEqual(told[2:], [[4], [1], [-33], [1], [-33], [2, 0, 1], [0], [4], [1, 4]])


class CornersOfTheOtherCalls(unittest.TestCase):
    def test_a_bed_of_one_cell(self):
        asked = [
            ("on_day", 0), ("on_day", 1), ("way", 0), ("way", 1), "best", ("fewest", 0), ("fewest", 50), "areas",
            ("without", 0), ("if_block", 0), "map", "grains", "state",
        ]
        self.assertEqual(ask(("begin", 1, 1), *asked)[1:], [
            [0], [0], [-33], [-2], [0, 0], [1, 0], [1, 0], [1, 1], [-2], [0], [1, 0], [0], [1, 1, 0, 0, 0],
        ])
        self.assertEqual(ask(("begin", 1, 1), ("grain", 0), *asked)[2:], [
            [1, 0], [0], [1, 0], [-2], [0, 0], [1, 0], [1, 0], [1, 1], [-33], [-16], [1, 1], [1, 0], [1, 1, 0, 1, 1],
        ])
        self.assertEqual(ask(("begin", 1, 1), ("block", 0), *asked)[2:], [
            [0], [0], [-16], [-2], [-33], [0], [0], [0], [-2], [-17], [1, 0], [0], [1, 1, 1, 0, 1],
        ])

    def test_one_row_and_one_cell_in_a_row(self):
        for size in ((5, 1), (1, 5)):
            told = ask(
                ("begin",) + size, ("grain", 1), ("on_day", 1), ("way", 4), "best", ("fewest", 1), "areas",
                ("without", 1), ("if_block", 4), ("if_block", 3), "map", "grains", "state",
            )
            self.assertEqual(told[2:], [
                [2, 0, 2], [4, 1, 2, 3, 4], [3, 1], [2, 0, 3], [1, 5], [-33], [2], [-33], [5, 2, 1, 2, 3, 4], [1, 1],
                [size[0], size[1], 0, 1, 1],
            ])

    def test_all_cells_blocked(self):
        told = ask(
            *laid_out(3, 2, range(6), ()), ("on_day", 0), ("way", 0), ("way", 6), "best", ("fewest", 0),
            ("fewest", 50), ("fewest", 51), "areas", ("without", 0), ("if_block", 0), ("if_block", 6), "map", "grains",
            "state",
        )
        self.assertEqual(told[7:], [
            [0], [-16], [-2], [-33], [0], [0], [-22], [0], [-2], [-17], [-2], [6, 0, 0, 0, 0, 0, 0], [0],
            [3, 2, 6, 0, 6],
        ])

    def test_no_grains(self):
        told = ask(
            ("begin", 3, 2), ("on_day", 0), ("way", 0), "best", ("fewest", 2), "areas", ("without", 0), ("if_block", 0),
            "map", "grains", "state",
        )
        self.assertEqual(told[1:], [
            [0], [-33], [1, 2], [1, 1], [1, 6], [-2], [-33], [6, 0, 0, 0, 0, 0, 0], [0], [3, 2, 0, 0, 0],
        ])

    def test_a_grain_in_each_corner(self):
        told = ask(
            *laid_out(5, 5, (), (24, 20, 4, 0)), ("on_day", 4), ("on_day", 1), ("way", 12), "best", "areas",
            ("without", 24), ("if_block", 12), "map", "grains",
        )
        self.assertEqual(told[5:], [
            [1, 12],
            [8, 1, 3, 5, 9, 15, 19, 21, 23],
            [5, 0, 1, 2, 7, 12],
            [7, 2],
            [1, 25],
            [4],
            [3],
            [25] + [1, 2, 3, 2, 1] + [2, 3, 4, 3, 2] + [3, 4, 5, 4, 3] + [2, 3, 4, 3, 2] + [1, 2, 3, 2, 1],
            [4, 0, 4, 20, 24],
        ])

    def test_an_area_behind_boards(self):
        behind = laid_out(3, 3, (5, 7), (0,))
        told = ask(*behind, ("way", 8), ("on_day", 0), "best", ("fewest", 4), ("fewest", 2), "areas", "map")
        self.assertEqual(told[4:], [
            [-33], [1, 0], [8, 2], [2, 0, 8], [2, 0, 8], [2, 6, 1], [9, 1, 2, 3, 2, 3, 0, 3, 0, 0],
        ])
        told = ask(*behind, ("grain", 8), ("way", 8), ("without", 8), ("without", 0), "best")
        self.assertEqual(told[5:], [[1, 8], [-33], [-33], [0, 2]])
        self.assertEqual(final(*behind, ("if_block", 8)), [2])

    def test_the_last_cell_of_a_row_and_the_first_of_the_next(self):
        for width in range(2, 6):
            told = ask(("begin", width, 2), ("grain", width - 1), ("way", width), ("on_day", 1), "map")
            self.assertEqual(told[2], [width + 1] + list(range(width - 1, -1, -1)) + [width])
            self.assertNotIn(width, told[3][1:])
            self.assertEqual(told[4][1 + width], width + 1)
        walled = laid_out(2, 2, (0, 3), (1,))
        told = ask(*walled, ("way", 2), "areas", "best", ("fewest", 50), ("if_block", 2), "map")
        self.assertEqual(told[4:], [[-33], [2, 1, 1], [2, 0], [2, 1, 2], [0], [4, 0, 1, 0, 0]])

    def test_two_ways_as_short(self):
        told = ask(*laid_out(3, 3, (4,), (0,)), ("way", 8), ("if_block", 1), ("if_block", 3), ("block", 1), ("way", 8))
        self.assertEqual(told[3:], [[5, 0, 1, 2, 5, 8], [6], [6], [2], [5, 0, 3, 6, 7, 8]])

    def test_a_cell_blocked_on_the_only_way(self):
        told = ask(
            ("begin", 5, 1), ("grain", 0), ("if_block", 2), ("way", 4), ("block", 2), ("way", 4), ("way", 1), "areas",
            "best", ("fewest", 4), "map", ("clear", 2), ("way", 4), "areas",
        )
        self.assertEqual(told[2:], [
            [-33], [5, 0, 1, 2, 3, 4], [1], [-33], [2, 0, 1], [2, 2, 2], [3, 1], [2, 0, 3], [5, 1, 2, 0, 0, 0], [0],
            [5, 0, 1, 2, 3, 4], [1, 5],
        ])
