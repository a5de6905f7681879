import unittest

from spawnbed.bed import answers
from tests.calls import HIGHEST, NAMES, ask, final, flat

WITH_TWO = ("begin",)
WITH_NONE = ("back", "full", "last", "best", "areas", "map", "grains", "state")
ASKED = [10, 1, 11, 5, 12, 13, 1, 14, 15, 0, 16, 1, 17, 18, 19, 10, HIGHEST, 11, HIGHEST, 13, HIGHEST, 15, 25, 16, 6]
MIXED = [0, 3, 2, 3, 0, 1, 4, 6, 5, 7, 8, 1, 9] + ASKED + [5, 2, 4, 4, 0, 5, 6, 25, 8, HIGHEST] + ASKED


def all_but_begin(number):
    return [name if name in WITH_NONE else (name, number) for name in NAMES if name not in WITH_TWO]


class Untouchable(list):
    """A list that fails at any try to change it, even for a while."""

    def refuse(self, *args, **kwargs):
        raise AssertionError("the list handed in was changed")

    append = extend = insert = remove = pop = clear = sort = reverse = refuse
    __setitem__ = __delitem__ = __iadd__ = __imul__ = refuse


class Form(unittest.TestCase):
    def test_calls_and_answers_lie_one_behind_another(self):
        self.assertEqual(answers([0, 3, 1, 3, 0, 6, 2, 7, 8, 1, 9]), [1, 0, 1, 1, 1, 2, 1, 2, 3, 2, 0, 1, 2, 1, 2])

    def test_the_number_of_each_of_the_calls_0_to_9(self):
        calls = [0, 2, 1, 1, 1, 2, 1, 3, 0, 4, 0, 5, 6, 1, 7, 8, 0, 9]
        self.assertEqual(
            answers(calls),
            [1, 0, 1, 1, 1, 0, 1, 1, 1, 0, 1, 3, 1, 1, 1, 1, 2, 1, 0, 2, 1, 1],
        )

    def test_the_number_of_each_of_the_calls_10_to_19(self):
        calls = [0, 3, 1, 3, 0, 10, 1, 11, 2, 12, 13, 1, 14, 15, 0, 16, 2, 17, 18, 19]
        self.assertEqual(
            answers(calls),
            [1, 0, 1, 1] + [2, 1, 1] + [4, 3, 0, 1, 2] + [2, 1, 1] + [2, 1, 1] + [2, 1, 3] + [1, -33] + [1, 1]
            + [4, 3, 1, 2, 3] + [2, 1, 0] + [5, 3, 1, 0, 1, 1],
        )

    def test_the_first_number_is_how_many_follow(self):
        bed = [("begin", 4, 3), ("block", 6), ("block", 9), ("grain", 5), ("grain", 8)]
        counted = [("run", 2), "last", ("on_day", 1), ("way", 10), ("fewest", 2), "areas", "map", "grains"]
        for answer in ask(*bed, *counted)[len(bed):]:
            self.assertEqual(answer[0], len(answer) - 1)
            self.assertGreater(answer[0], 0)

    def test_best_answers_two_numbers_and_state_five(self):
        told = ask(("begin", 4, 3), "best", "state", ("grain", 5), "best", "state")
        self.assertEqual([len(answer) for answer in told], [1, 2, 5, 1, 2, 5])

    def test_counts_of_nothing(self):
        self.assertEqual(answers([0, 1, 1, 10, 0, 18, 1, 0, 13, 0, 14]), [1, 0, 1, 0, 1, 0, 1, 1, 1, 0, 1, 0])

    def test_an_answer_without_cells_is_its_count_alone(self):
        self.assertEqual(answers([0, 1, 1, 8, 0]), [1, 0, 1, 0])

    def test_a_refusal_is_its_number_alone(self):
        self.assertEqual(answers([0, 2, 2, 9, 7, 6, 0, 6, 4]), [1, 0, 1, -33, 1, -33, 1, -33, 1, -2])

    def test_one_call(self):
        self.assertEqual(answers([0, 5, 5]), [1, 0])
        self.assertEqual(answers([7]), [1, -61])

    def test_a_hundred_calls(self):
        calls = [("begin", 5, 5)] + [("grain", 12), ("run", HIGHEST), ("take", 12)] * 33
        told = ask(*calls)
        self.assertEqual(len(told), 100)
        self.assertEqual(told[1:], [[1], [25] + list(range(25)), [0]] * 33)

    def test_a_hundred_calls_that_try_most(self):
        for call, answer in ((("fewest", 2), [-33]), (("fewest", 3), [2, 2, 17]), ("best", [12, 4])):
            self.assertEqual(ask(("begin", 5, 5), *[call] * 99), [[0]] + [answer] * 99)

    def test_all_numbers_are_plain_whole_numbers(self):
        told = answers(list(MIXED))
        self.assertIs(type(told), list)
        self.assertEqual({type(number) for number in told}, {int})


class NothingIsKept(unittest.TestCase):
    def test_the_list_handed_in_stays_as_it_was(self):
        calls = list(MIXED)
        answers(calls)
        self.assertEqual(calls, MIXED)

    def test_the_list_handed_in_is_not_changed_for_a_while_either(self):
        self.assertEqual(answers(Untouchable(MIXED)), answers(list(MIXED)))

    def test_a_second_time_gives_back_the_same(self):
        first = answers(list(MIXED))
        self.assertEqual(answers(list(MIXED)), first)

    def test_what_is_given_back_is_not_shared(self):
        first = answers(list(MIXED))
        kept = list(first)
        first.append(7)
        self.assertEqual(answers(list(MIXED)), kept)

    def test_what_was_asked_first_does_not_matter(self):
        alone = final(("begin", 4, 3), ("block", 6), ("grain", 0), ("fewest", 3))
        ask(("begin", 4, 3), ("block", 5), ("grain", 1), ("fewest", 3), "best", "areas", "map")
        self.assertEqual(final(("begin", 4, 3), ("block", 6), ("grain", 0), ("fewest", 3)), alone)

    def test_the_object_is_new_each_time(self):
        answers([0, 2, 2, 3, 0])
        self.assertEqual(answers([7, 5]), [1, -61, 1, -61])


class NotBegun(unittest.TestCase):
    def test_every_other_call_is_refused(self):
        for number in (0, 1, 24, 25, 51, HIGHEST):
            self.assertEqual(ask(*all_but_begin(number)), [[-61]] * 19)

    def test_each_is_read_with_its_numbers(self):
        for call in all_but_begin(0):
            self.assertEqual(ask(call, "back", ("begin", 1, 1), ("grain", 0)), [[-61], [-61], [0], [1]], call)

    def test_a_refused_begin_begins_nothing(self):
        for size in ((0, 3), (3, 0), (6, 6), (HIGHEST, HIGHEST)):
            told = ask(("begin",) + size, *all_but_begin(0))
            self.assertEqual(told, [[-22]] + [[-61]] * 19)

    def test_calls_ahead_of_the_begin_leave_nothing(self):
        told = ask(("grain", 0), ("block", 1), ("begin", 2, 1), "back", ("grain", 1), ("run", 0))
        self.assertEqual(told, [[-61], [-61], [0], [-2], [1], [1, 1]])

    def test_begun_after_a_refused_begin(self):
        self.assertEqual(ask(("begin", 0, 1), "full", ("begin", 1, 1), "full"), [[-22], [-61], [0], [-33]])

    def test_still_begun_after_a_begin_that_is_refused(self):
        self.assertEqual(final(("begin", 1, 1), ("grain", 0), ("begin", 1, 6), "full"), [0])


class Helpers(unittest.TestCase):
    def test_flat(self):
        self.assertEqual(flat([("begin", 1, 2), "full", ("run", 9)]), [0, 1, 2, 7, 8, 9])
