"""The interface: what is handed in, what is given back, and that nothing is kept."""

import unittest

from comeround.maps import answers
from tests.helper import BEGIN, DONE, GREATEST_K, NO_MAP, REFUSED, come_round, go, map_of, map_without_heights, run


def refuse_change(*arguments):
    raise AssertionError("what is handed in was changed")


class Unchanging(list):
    """A list that tells of a change even if it is undone before the answer."""

    append = clear = extend = insert = pop = remove = reverse = sort = refuse_change
    __setitem__ = __delitem__ = __iadd__ = __imul__ = refuse_change


LONG_LINE = (
    go(0, 1)
    + map_without_heights(9)
    + map_of([1, 2, 0])
    + go(1, 2)
    + run(0, 1, GREATEST_K)
    + come_round(0, 1)
    + go(3, 1)
    + map_of([0, 3, 0])
    + BEGIN
    + come_round(0, 0)
) * 6
LONG_ANSWERS = (
    NO_MAP
    + REFUSED
    + DONE
    + [1, 3]
    + [1, 0]
    + [3, 0, 0, 3]
    + REFUSED
    + REFUSED
    + DONE
    + NO_MAP
) * 6


class Interface(unittest.TestCase):
    def test_one_call(self):
        self.assertEqual(answers([0]), [1, 0])
        self.assertEqual(answers([1, 2, 2, 0, 1]), [1, 0])
        self.assertEqual(answers([1, 8, 8, 0, 1, 2, 3, 4, 5, 6, 7]), [1, 0])
        self.assertEqual(answers([1, 4294967295, 0]), [1, -1])
        self.assertEqual(answers([2, 0, 1]), [1, -4])
        self.assertEqual(answers([3, 0, 1, 5]), [1, -4])
        self.assertEqual(answers([4, 0, 1]), [1, -4])

    def test_counts_stand_before_the_answers(self):
        told = answers([1, 3, 3, 1, 2, 0, 2, 1, 2, 3, 1, 2, 2, 4, 0, 1, 4, 0, 0])
        self.assertEqual(told, [1, 0, 1, 3, 1, 2, 3, 0, 0, 3, 1, -1])

    def test_sixty_calls(self):
        self.assertEqual(answers(LONG_LINE), LONG_ANSWERS)
        self.assertEqual(answers(BEGIN * 60), DONE * 60)
        heights = [2, 6, 3, 4, 5, 6, 7, 2]
        told = answers(map_of(heights) + come_round(28312, 4993) * 59)
        self.assertEqual(told, DONE + [3, 0, 0, 14976] * 59)

    def test_numbers_like_those_of_calls_are_not_taken_for_calls(self):
        told = answers(map_of([4, 0, 1, 2, 3]) + go(0, 2) + run(3, 4, 1) + come_round(1, 1) + BEGIN)
        self.assertEqual(told, DONE + [1, 8] + [1, 4] + [3, 0, 0, 5] + DONE)

    def test_gives_back_plain_whole_numbers(self):
        told = answers(list(LONG_LINE))
        self.assertIs(type(told), list)
        self.assertEqual({type(number) for number in told}, {int})

    def test_changes_nothing_that_is_handed_in(self):
        handed_in = Unchanging(LONG_LINE)
        self.assertEqual(answers(handed_in), LONG_ANSWERS)
        self.assertEqual(list(handed_in), list(LONG_LINE))

    def test_gives_back_a_list_of_its_own(self):
        first = answers(map_of([1, 0]))
        first.append(7)
        self.assertEqual(answers(map_of([1, 0])), DONE)

    def test_keeps_nothing_from_one_time_to_the_next(self):
        self.assertEqual(answers(map_of([1, 2, 0])), DONE)
        for call in (go(0, 1), run(0, 1, 1), come_round(0, 1)):
            self.assertEqual(answers(call), NO_MAP)
        self.assertEqual(answers(map_of([1, 2, 1]) + come_round(0, 1)), DONE + [3, 0, 1, 2])
        self.assertEqual(answers(map_of([1, 2, 0]) + come_round(0, 1)), DONE + [3, 0, 0, 3])
        self.assertEqual(answers(map_of([1, 2, 1]) + come_round(0, 1)), DONE + [3, 0, 1, 2])


if __name__ == "__main__":
    unittest.main()
