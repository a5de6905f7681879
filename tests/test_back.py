import unittest

from tests.calls import HIGHEST, ask, final, view


class Back(unittest.TestCase):
    def same_as(self, before, taken_back):
        """A change that is taken back leaves the bed as it was ahead of it."""
        told = ask(*before, taken_back, "back", *view(3, 2))
        self.assertGreaterEqual(told[len(before)][0], 0)
        self.assertEqual(told[len(before) + 1], [len(before) - 1])
        self.assertEqual(told[len(before) + 2:], ask(*before, *view(3, 2))[len(before):])
        self.assertNotEqual(ask(*before, taken_back, *view(3, 2))[len(before) + 1:], told[len(before) + 2:])

    def test_block_is_taken_back(self):
        self.same_as([("begin", 3, 2), ("grain", 0), ("block", 4)], ("block", 1))

    def test_clear_is_taken_back(self):
        self.same_as([("begin", 3, 2), ("grain", 0), ("block", 4), ("block", 1)], ("clear", 4))

    def test_grain_is_taken_back(self):
        self.same_as([("begin", 3, 2), ("grain", 0), ("block", 4)], ("grain", 5))

    def test_take_is_taken_back(self):
        self.same_as([("begin", 3, 2), ("grain", 0), ("grain", 5)], ("take", 0))

    def test_counts_go_on_from_what_was_taken_back_to(self):
        told = ask(
            ("begin", 3, 3), ("block", 0), ("block", 1), "back", ("block", 2), ("clear", 0), "back", ("block", 3),
            ("grain", 8), ("grain", 7), "back", ("grain", 6), ("take", 8), "back", ("grain", 5),
        )
        self.assertEqual(
            told,
            [[0], [1], [2], [1], [2], [1], [2], [3], [1], [2], [4], [2], [1], [5], [3]],
        )

    def test_one_behind_another(self):
        told = ask(
            ("begin", 3, 1), ("grain", 0), ("block", 1), ("clear", 1), ("take", 0),
            "back", "full", "back", "full", "back", "full", "back", "full", "back",
        )
        self.assertEqual(told[5:], [[3], [2], [2], [-33], [1], [2], [0], [-33], [-2]])

    def test_nothing_to_take_back(self):
        self.assertEqual(ask(("begin", 3, 1), "back", "back"), [[0], [-2], [-2]])

    def test_the_last_ten_can_be(self):
        ten = [("block", cell) for cell in range(10)]
        told = ask(("begin", 5, 5), *ten, *["back"] * 11)
        self.assertEqual(told[11:], [[left] for left in range(9, -1, -1)] + [[-2]])

    def test_not_one_before_the_last_ten(self):
        for more in (11, 12, 20):
            blocks = [("block", cell) for cell in range(more)]
            told = ask(("begin", 5, 5), *blocks, *["back"] * 11, ("block", 24))
            self.assertEqual(told[more + 1:-1], [[left] for left in range(9, -1, -1)] + [[-2]])
            self.assertEqual(told[-1], [more - 10 + 1])

    def test_the_oldest_of_eleven_stays(self):
        told = ask(("begin", 5, 5), *[("block", cell) for cell in range(11)], *["back"] * 10, ("day", 0), ("day", 1))
        self.assertEqual(told[-2:], [[-16], [-33]])

    def test_a_change_after_a_back_fills_up_again(self):
        ten = [("block", cell) for cell in range(10)]
        told = ask(("begin", 5, 5), *ten, "back", "back", ("grain", 20), "back", ("grain", 21), ("grain", 22), "back")
        self.assertEqual(told[11:], [[9], [8], [1], [8], [1], [2], [9]])

    def test_back_undoes_no_back(self):
        told = ask(("begin", 3, 1), ("grain", 0), ("grain", 2), "back", ("run", 0), "back", ("run", 0), "back")
        self.assertEqual(told[3:], [[1], [1, 0], [0], [0], [-2]])

    def test_begin_leaves_nothing_to_take_back(self):
        told = ask(("begin", 3, 1), ("grain", 0), ("block", 1), ("begin", 3, 1), "back", ("grain", 0), "back", "back")
        self.assertEqual(told[3:], [[0], [-2], [1], [0], [-2]])

    def test_a_begin_is_not_taken_back(self):
        told = ask(("begin", 3, 1), ("begin", 2, 2), "back", ("day", 3))
        self.assertEqual(told[2:], [[-2], [-33]])

    def test_a_refused_begin_leaves_what_there_is_to_take_back(self):
        told = ask(("begin", 3, 1), ("grain", 0), ("begin", 6, 1), "back", ("run", 0), "back")
        self.assertEqual(told[2:], [[-22], [0], [0], [-2]])

    def test_a_refused_call_is_not_one_to_take_back(self):
        before = [("begin", 3, 2), ("block", 1), ("grain", 0)]
        for call in (
            ("block", 1), ("block", 0), ("block", 6), ("clear", 0), ("clear", 6), ("grain", 0), ("grain", 1),
            ("grain", HIGHEST), ("take", 1), ("take", 2), ("take", 6),
        ):
            told = ask(*before, call, "back", ("day", 0), ("day", 1))
            self.assertLess(told[3][0], 0)
            self.assertEqual(told[4:], [[1], [-33], [-16]], call)

    def test_a_seventh_grain_is_not_one_to_take_back(self):
        seven = [("grain", cell) for cell in range(7)]
        self.assertEqual(final(("begin", 5, 5), *seven, "back", ("run", 0)), [5, 0, 1, 2, 3, 4])

    def test_asking_is_not_one_to_take_back(self):
        for call in (
            ("day", 1), "full", ("run", 1), "last", ("on_day", 0), ("way", 1), "best", ("fewest", 1), "areas",
            ("without", 2), ("if_block", 1), "map", "grains", "state",
        ):
            told = ask(("begin", 3, 1), ("grain", 0), ("grain", 2), call, "back", ("run", 0))
            self.assertEqual(told[4:], [[1], [1, 0]])
