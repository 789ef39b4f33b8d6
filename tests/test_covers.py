"""Promise 6."""

import unittest

from comeround.maps import answers
from tests.helper import (
    BEGIN,
    DONE,
    NO,
    NO_MAP,
    REFUSED,
    UP_AND_DOWN,
    YES,
    answer_on,
    covers,
    covers_as_drawn,
    gaps_of,
    map_of,
    small_maps,
    some_maps_of_four,
)

NO_GAP = (2147483647, 2147483648, 2147483649, 4294967294, 4294967295)


def covered(heights, i):
    """The gaps that gap i is told to cover."""
    return [j for j in gaps_of(heights) if answer_on(heights, covers(i, j)) == YES]


class Covers(unittest.TestCase):
    def test_a_line_that_climbs(self):
        self.assertEqual(covered([0, 3, 1, 1, 2], 0), [0, 1, 2])
        self.assertEqual(covered([0, 3, 1, 1, 2], 3), [1])
        self.assertEqual(covered([2, 4, 0, 0, 0], 0), [2, 3])

    def test_a_line_that_falls(self):
        self.assertEqual(covered([0, 3, 1, 1, 2], 1), [1, 2])
        self.assertEqual(covered([4, 0, 0, 0, 0], 0), [0, 1, 2, 3])
        self.assertEqual(covered([0, 0, 0, 4, 3], 3), [3])

    def test_a_level_line_covers_nothing(self):
        self.assertEqual(covered([0, 3, 1, 1, 2], 2), [])
        for height in range(8):
            for i in range(7):
                self.assertEqual(covered([height] * 8, i), [])

    def test_the_first_and_the_last_gap(self):
        heights = [0, 1, 1, 1, 1, 1, 6, 7]
        self.assertEqual(answer_on(heights, covers(0, 0)), YES)
        self.assertEqual(answer_on(heights, covers(0, 6)), NO)
        self.assertEqual(answer_on(heights, covers(6, 0)), NO)
        self.assertEqual(answer_on(heights, covers(6, 6)), YES)
        self.assertEqual(answer_on([1, 0], covers(0, 0)), YES)
        self.assertEqual(answer_on([1, 1], covers(0, 0)), NO)

    def test_is_not_asked_the_other_way_round(self):
        self.assertEqual(answer_on([1, 2, 2], covers(0, 1)), YES)
        self.assertEqual(answer_on([1, 2, 2], covers(1, 0)), NO)

    def test_every_gap_as_drawn(self):
        more = [[3, 1, 4, 1, 5, 7, 2, 6], [7, 7, 0, 6, 1, 1, 5, 2], list(UP_AND_DOWN)]
        for heights in small_maps() + some_maps_of_four() + more:
            for i in gaps_of(heights):
                for j in gaps_of(heights):
                    with self.subTest(heights=heights, i=i, j=j):
                        drawn = covers_as_drawn(heights, i, j)
                        self.assertEqual(answer_on(heights, covers(i, j)), YES if drawn else NO)

    def test_refuses_what_is_no_gap(self):
        for n in range(2, 9):
            heights = [0] * (n - 1) + [n - 1]
            self.assertEqual(answer_on(heights, covers(n - 2, n - 2)), YES)
            for beside in (n - 1, n, n + 1) + NO_GAP:
                with self.subTest(n=n, beside=beside):
                    self.assertEqual(answer_on(heights, covers(beside, 0)), REFUSED)
                    self.assertEqual(answer_on(heights, covers(0, beside)), REFUSED)
                    self.assertEqual(answer_on(heights, covers(n - 2, beside)), REFUSED)
                    self.assertEqual(answer_on(heights, covers(beside, beside)), REFUSED)

    def test_no_map_whatever_i_and_j_are(self):
        for i in (0, 1, 6, 7) + NO_GAP:
            for j in (0, 1, 6, 7) + NO_GAP:
                with self.subTest(i=i, j=j):
                    self.assertEqual(answers(covers(i, j)), NO_MAP)
                    self.assertEqual(answers(map_of([0, 1]) + BEGIN + covers(i, j)), DONE + DONE + NO_MAP)


if __name__ == "__main__":
    unittest.main()
