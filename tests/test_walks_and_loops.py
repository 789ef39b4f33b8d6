"""Promises 7 and 8."""

import unittest

from comeround.maps import answers
from tests.helper import (
    BEGIN,
    COUNT_MODULUS,
    DONE,
    NO_MAP,
    REFUSED,
    UP_AND_DOWN,
    answer_on,
    gaps_of,
    loops,
    map_of,
    small_maps,
    some_maps_of_four,
    steps_squared,
    walks,
    walks_one_by_one,
)

STEPS = range(65)
REFUSED_STEPS = (65, 66, 255, 2147483647, 2147483648, 4294967231, 4294967294, 4294967295)
ENDING = [0, 0, 1, 2, 3, 4, 5, 6]
TURNED = [7, 6, 5, 4, 3, 2, 1, 0]


class Counts(unittest.TestCase):
    def assert_counts(self, heights, k, of_walks, of_loops):
        with self.subTest(heights=heights, k=k):
            self.assertEqual(answer_on(heights, walks(k)), [2, 0, of_walks])
            self.assertEqual(answer_on(heights, loops(k)), [2, 0, of_loops])

    def test_of_0_steps_one_for_each_gap(self):
        for n in range(2, 9):
            self.assert_counts(list(range(n)), 0, n - 1, n - 1)
            self.assert_counts([0] * n, 0, n - 1, n - 1)

    def test_of_1_step(self):
        self.assert_counts([1, 2, 0], 1, 3, 1)
        self.assert_counts([0, 3, 1, 1, 2], 1, 6, 2)
        self.assert_counts([0] * 8, 1, 0, 0)
        self.assert_counts(list(range(8)), 1, 7, 7)
        self.assert_counts(ENDING, 1, 6, 0)

    def test_each_the_sum_of_the_two_before(self):
        of_walks = [2, 3]
        of_loops = [2, 1]
        while len(of_walks) < 65:
            of_walks.append(of_walks[-1] + of_walks[-2])
            of_loops.append(of_loops[-1] + of_loops[-2])
        for k in STEPS:
            self.assert_counts([1, 2, 0], k, of_walks[k], of_loops[k])

    def test_that_soon_find_no_way_on(self):
        for k in STEPS:
            self.assert_counts(ENDING, k, max(7 - k, 0), 7 if k == 0 else 0)

    def test_back_only_every_second_step(self):
        for k in STEPS:
            self.assert_counts(TURNED, k, 7, 7 if k % 2 == 0 else 1)
            self.assert_counts([2, 1, 0], k, 2, 2 if k % 2 == 0 else 0)

    def test_modulo_2_to_the_64(self):
        for k in STEPS[1:]:
            self.assert_counts(UP_AND_DOWN, k, 7 ** (k + 1) % COUNT_MODULUS, 7**k % COUNT_MODULUS)
            self.assert_counts([0, 2, 0], k, 2 ** (k + 1) % COUNT_MODULUS, 2**k % COUNT_MODULUS)

    def test_at_the_edge_of_2_to_the_64(self):
        # 7 to the 22 is below it, 7 to the 23 is above.
        self.assertEqual(answer_on(UP_AND_DOWN, walks(21)), [2, 0, 3909821048582988049])
        self.assert_counts(UP_AND_DOWN, 22, 8922003266371364727, 3909821048582988049)
        self.assertEqual(answer_on(UP_AND_DOWN, loops(23)), [2, 0, 8922003266371364727])
        self.assertEqual(answer_on([0, 2, 0], walks(62)), [2, 0, 9223372036854775808])
        self.assert_counts([0, 2, 0], 63, 0, 9223372036854775808)
        self.assert_counts([0, 2, 0], 64, 0, 0)

    def test_a_few_steps_counted_one_by_one(self):
        for heights in small_maps() + some_maps_of_four():
            for k in range(5):
                rows = walks_one_by_one(heights, k)
                self.assert_counts(heights, k, len(rows), len([row for row in rows if row[0] == row[-1]]))

    def test_8_dots_by_squaring(self):
        for heights in ([3, 1, 4, 1, 5, 7, 2, 6], [7, 7, 0, 6, 1, 1, 5, 2], [2, 7, 1, 0, 6, 3, 5, 4]):
            for k in (1, 2, 7, 31, 32, 63, 64):
                table = steps_squared(heights, k)
                of_walks = sum(sum(row) for row in table)
                of_loops = sum(table[i][i] for i in gaps_of(heights))
                self.assert_counts(heights, k, of_walks % COUNT_MODULUS, of_loops % COUNT_MODULUS)

    def test_refuse_k_outside_0_to_64(self):
        for k in REFUSED_STEPS:
            for call in (walks(k), loops(k)):
                with self.subTest(call=call):
                    self.assertEqual(answer_on([1, 2, 0], call), REFUSED)
                    self.assertEqual(answer_on(UP_AND_DOWN, call), REFUSED)

    def test_no_map_whatever_k_is(self):
        for k in (0, 1, 64) + REFUSED_STEPS:
            for call in (walks(k), loops(k)):
                with self.subTest(call=call):
                    self.assertEqual(answers(call), NO_MAP)
                    self.assertEqual(answers(map_of([0, 1]) + BEGIN + call), DONE + DONE + NO_MAP)


if __name__ == "__main__":
    unittest.main()
