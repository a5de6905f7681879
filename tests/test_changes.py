"""begin, block, clear, grain and take."""

import unittest

from tests.calls import HIGHEST, ask, final, view

NO_CELLS = (6, 7, 24, 25, 4294967290, HIGHEST)


class Begin(unittest.TestCase):
    def test_all_sizes(self):
        for width in range(1, 6):
            for height in range(1, 6):
                last = width * height - 1
                told = ask(("begin", width, height), ("day", last), ("day", last + 1))
                self.assertEqual(told, [[0], [-33], [-2]])

    def test_other_sizes_are_refused(self):
        for wrong in (0, 6, 7, 25, 4294967290, HIGHEST):
            for right in (1, 5):
                self.assertEqual(ask(("begin", wrong, right)), [[-22]])
                self.assertEqual(ask(("begin", right, wrong)), [[-22]])
            self.assertEqual(ask(("begin", wrong, wrong)), [[-22]])

    def test_width_comes_before_height(self):
        # In rows of 4, cell 4 is below cell 0; in rows of 2 it would be two days away.
        self.assertEqual(final(("begin", 4, 2), ("grain", 0), ("day", 4)), [1])
        self.assertEqual(final(("begin", 2, 4), ("grain", 0), ("day", 4)), [2])

    def test_begin_again_leaves_no_boards_no_grains_and_nothing_to_take_back(self):
        told = ask(
            ("begin", 3, 3), ("block", 0), ("grain", 1), ("begin", 2, 2), "back", ("run", HIGHEST),
            ("block", 0), ("grain", 1), ("day", 4),
        )
        self.assertEqual(told[3:], [[0], [-2], [0], [1], [1], [-2]])

    def test_a_refused_begin_changes_nothing(self):
        before = [("begin", 3, 2), ("block", 1), ("grain", 0)]
        for size in ((0, 1), (1, 0), (6, 1), (1, 6), (HIGHEST, 1)):
            told = ask(*before, ("begin",) + size, *view(3, 2), "back", "back", "back")
            self.assertEqual(told[3], [-22])
            self.assertEqual(told[4:], ask(*before, *view(3, 2), "back", "back", "back")[3:])


class Block(unittest.TestCase):
    def test_tells_how_many_are_blocked(self):
        told = ask(("begin", 3, 2), ("block", 5), ("block", 0), ("block", 3))
        self.assertEqual(told, [[0], [1], [2], [3]])

    def test_a_blocked_cell_is_not_free(self):
        self.assertEqual(final(("begin", 3, 2), ("block", 5), ("day", 5)), [-16])

    def test_no_such_cell(self):
        for cell in NO_CELLS:
            self.assertEqual(final(("begin", 3, 2), ("block", cell)), [-2])

    def test_already_blocked(self):
        self.assertEqual(ask(("begin", 3, 2), ("block", 1), ("block", 1), ("block", 2)), [[0], [1], [-17], [2]])

    def test_a_grain_is_there(self):
        self.assertEqual(final(("begin", 3, 2), ("grain", 1), ("block", 1)), [-16])

    def test_after_the_grain_is_taken(self):
        self.assertEqual(final(("begin", 3, 2), ("grain", 1), ("take", 1), ("block", 1)), [1])


class Clear(unittest.TestCase):
    def test_tells_how_many_are_still_blocked(self):
        told = ask(("begin", 3, 2), ("block", 5), ("block", 0), ("clear", 5), ("clear", 0))
        self.assertEqual(told[3:], [[1], [0]])

    def test_the_cell_told_is_free_and_no_other(self):
        told = ask(("begin", 3, 2), ("block", 5), ("block", 0), ("clear", 5), ("day", 5), ("day", 0))
        self.assertEqual(told[4:], [[-33], [-16]])

    def test_no_such_cell(self):
        for cell in NO_CELLS:
            self.assertEqual(final(("begin", 3, 2), ("block", 0), ("clear", cell)), [-2])

    def test_not_blocked(self):
        told = ask(("begin", 3, 2), ("clear", 0), ("grain", 1), ("clear", 1), ("block", 2), ("clear", 2), ("clear", 2))
        self.assertEqual(told, [[0], [-2], [1], [-2], [1], [0], [-2]])


class Grain(unittest.TestCase):
    def test_tells_how_many_lie_there(self):
        told = ask(("begin", 3, 2), ("grain", 5), ("grain", 0), ("grain", 3))
        self.assertEqual(told, [[0], [1], [2], [3]])

    def test_no_such_cell(self):
        for cell in NO_CELLS:
            self.assertEqual(final(("begin", 3, 2), ("grain", cell)), [-2])

    def test_blocked(self):
        self.assertEqual(final(("begin", 3, 2), ("block", 1), ("grain", 1)), [-16])

    def test_one_is_there(self):
        self.assertEqual(ask(("begin", 3, 2), ("grain", 1), ("grain", 1), ("grain", 2)), [[0], [1], [-17], [2]])

    def test_six_and_one_more(self):
        six = [("grain", cell) for cell in range(6)]
        told = ask(("begin", 5, 5), *six, ("grain", 6), ("take", 0), ("grain", 6), ("grain", 0))
        self.assertEqual(told, [[0], [1], [2], [3], [4], [5], [6], [-28], [5], [6], [-28]])

    def test_with_six_the_refusal_told_first_is_answered(self):
        six = [("grain", cell) for cell in range(6)]
        told = ask(("begin", 5, 5), ("block", 9), *six, ("grain", 25), ("grain", 9), ("grain", 5), ("grain", 6))
        self.assertEqual(told[8:], [[-2], [-16], [-17], [-28]])

    def test_six_cells_hold_six(self):
        six = [("grain", cell) for cell in range(6)]
        self.assertEqual(ask(("begin", 3, 2), *six, ("grain", 6), ("grain", 5), "full")[6:], [[6], [-2], [-17], [0]])


class Take(unittest.TestCase):
    def test_tells_how_many_there_still_are(self):
        told = ask(("begin", 3, 2), ("grain", 5), ("grain", 0), ("take", 5), ("run", 0), ("take", 0), ("run", 0))
        self.assertEqual(told[3:], [[1], [1, 0], [0], [0]])

    def test_no_such_cell(self):
        for cell in NO_CELLS:
            self.assertEqual(final(("begin", 3, 2), ("grain", 0), ("take", cell)), [-2])

    def test_no_grain_is_there(self):
        told = ask(("begin", 3, 2), ("take", 0), ("block", 1), ("take", 1), ("grain", 2), ("take", 2), ("take", 2))
        self.assertEqual(told, [[0], [-2], [1], [-2], [1], [0], [-2]])

    def test_a_cell_that_is_run_through_without_a_grain(self):
        self.assertEqual(final(("begin", 2, 1), ("grain", 0), ("take", 1)), [-2])


class Refused(unittest.TestCase):
    def test_a_refusal_changes_nothing(self):
        laid = [("grain", cell) for cell in (0, 1, 2, 3, 4, 6)]
        before = [("begin", 4, 3), ("block", 5)] + laid
        refused = {
            ("block", 12): -2, ("block", HIGHEST): -2, ("block", 5): -17, ("block", 0): -16,
            ("clear", 12): -2, ("clear", 0): -2, ("clear", 7): -2,
            ("grain", 12): -2, ("grain", 5): -16, ("grain", 6): -17, ("grain", 7): -28,
            ("take", 12): -2, ("take", 5): -2, ("take", 7): -2,
            ("day", 12): -2, ("day", 5): -16, ("begin", 0, 0): -22,
            ("way", 12): -2, ("way", HIGHEST): -2, ("way", 5): -16,
            ("fewest", 51): -22, ("fewest", HIGHEST): -22, ("fewest", 0): -33,
            ("without", 12): -2, ("without", HIGHEST): -2, ("without", 5): -2, ("without", 7): -2,
            ("if_block", 12): -2, ("if_block", HIGHEST): -2, ("if_block", 5): -17, ("if_block", 0): -16,
        }
        after = view(4, 3) + ["back"] * 9 + view(4, 3)
        expected = ask(*before, *after)[len(before):]
        for call, number in refused.items():
            told = ask(*before, call, *after)
            self.assertEqual(told[len(before)], [number], call)
            self.assertEqual(told[len(before) + 1:], expected, call)

    def test_a_never_changes_nothing(self):
        before = [("begin", 5, 1), ("block", 1), ("block", 3), ("grain", 0)]
        after = view(5, 1) + ["back"] * 4 + view(5, 1)
        expected = ask(*before, *after)[len(before):]
        for call in ("full", "last", "best", ("day", 2), ("way", 2), ("without", 0), ("if_block", 2)):
            told = ask(*before, call, *after)
            self.assertEqual(told[len(before)], [-33], call)
            self.assertEqual(told[len(before) + 1:], expected, call)

    def test_asking_changes_nothing(self):
        before = [("begin", 4, 3), ("block", 6), ("grain", 5), ("block", 9), ("grain", 11), ("grain", 1), "back"]
        after = view(4, 3) + ["back"] * 5 + view(4, 3)
        expected = ask(*before, *after)[len(before):]
        for call in (
            ("day", 10), "full", ("run", 2), "last", ("on_day", 2), ("way", 10), "best", ("fewest", 2),
            ("fewest", 50), "areas", ("without", 5), ("without", 11), ("if_block", 0), ("if_block", 10), "map",
            "grains", "state",
        ):
            told = ask(*before, call, *after)
            self.assertGreaterEqual(told[len(before)][0], 0, call)
            self.assertEqual(told[len(before) + 1:], expected, call)

    def test_a_refused_back_changes_nothing(self):
        told = ask(("begin", 2, 1), "back", "back", ("grain", 0), "full", "back", "back", "full", ("grain", 1), "back")
        self.assertEqual(told, [[0], [-2], [-2], [1], [1], [0], [-2], [-33], [1], [0]])
