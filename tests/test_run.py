"""Promise 4."""

import unittest

from tests.helper import (
    BY_5000,
    GREATEST_K,
    REFUSED,
    REFUSED_OF_THREE_DOTS,
    answer_on,
    path,
    run,
    small_maps,
    some_maps_of_four,
)


class Run(unittest.TestCase):
    def test_no_move(self):
        self.assertEqual(answer_on([1, 2, 0], run(1, 1, 0)), [1, 1])
        self.assertEqual(answer_on([0, 2, 0], run(1, 4, 0)), [1, 1])
        self.assertEqual(answer_on([0, 0], run(5000, 5000, 0)), [1, 5000])

    def test_one_move_and_a_few(self):
        went = [answer_on([0, 2, 0], run(1, 4, k)) for k in range(7)]
        self.assertEqual(went, [[1, 1], [1, 2], [1, 4], [1, 8], [1, 0], [1, 0], [1, 0]])

    def test_what_comes_round_at_once(self):
        went = [answer_on([1, 2, 0], run(0, 1, k))[1] for k in range(8)]
        self.assertEqual(went, [0, 1, 2, 0, 1, 2, 0, 1])

    def test_what_comes_round_only_after_some_moves(self):
        went = [answer_on([1, 2, 1], run(0, 3, k))[1] for k in range(6)]
        self.assertEqual(went, [0, 3, 6, 3, 6, 3])

    def test_the_greatest_k(self):
        # 2 to the 64 less 1 leaves 1 by 2, 0 by 3, 3 by 4, 1 by 7 and 7 by 8.
        self.assertEqual(answer_on([1, 0], run(0, 1, GREATEST_K)), [1, 1])
        self.assertEqual(answer_on([1, 2, 0], run(1, 1, GREATEST_K)), [1, 1])
        self.assertEqual(answer_on([1, 2, 3, 0], run(0, 1, GREATEST_K)), [1, 3])
        self.assertEqual(answer_on([1, 2, 3, 4, 5, 6, 0], run(0, 1, GREATEST_K)), [1, 1])
        self.assertEqual(answer_on([1, 2, 3, 4, 5, 6, 7, 0], run(0, 1, GREATEST_K)), [1, 7])
        self.assertEqual(answer_on([1, 2, 3, 4, 5, 6, 7, 0], run(0, 1, GREATEST_K - 1)), [1, 6])

    def test_the_greatest_k_after_moves_that_do_not_come_back(self):
        self.assertEqual(answer_on([1, 2, 1], run(0, 1, GREATEST_K)), [1, 1])
        self.assertEqual(answer_on([1, 2, 1], run(0, 1, GREATEST_K - 1)), [1, 2])
        self.assertEqual(answer_on([0, 2, 0], run(1, 4, GREATEST_K)), [1, 0])

    def test_small_maps_against_move_by_move(self):
        for heights in small_maps() + some_maps_of_four():
            for q in (1, 2, 3, 5):
                for p in range((len(heights) - 1) * q + 1):
                    went = path(heights, p, q, 20)
                    for k in (0, 1, 2, 3, 4, 5, 8, 13, 20):
                        with self.subTest(heights=heights, p=p, q=q, k=k):
                            self.assertEqual(answer_on(heights, run(p, q, k)), [1, went[k]])

    def test_q_of_5000_with_8_dots(self):
        for heights, p, before, period in BY_5000:
            went = path(heights, p, 5000, before + 2 * period)
            for k in (0, 1, 2, before, before + 1, before + period - 1, before + period, before + period + 1):
                with self.subTest(heights=heights, p=p, k=k):
                    self.assertEqual(answer_on(heights, run(p, 5000, k)), [1, went[k]])
            with self.subTest(heights=heights, p=p, k=GREATEST_K):
                at_last = went[before + (GREATEST_K - before) % period]
                self.assertEqual(answer_on(heights, run(p, 5000, GREATEST_K)), [1, at_last])

    def test_the_last_place(self):
        self.assertEqual(answer_on([1, 2, 0], run(10000, 5000, 1)), [1, 0])
        self.assertEqual(answer_on([7, 0, 0, 0, 0, 0, 0, 3], run(35000, 5000, 3)), [1, 35000])

    def test_refuses_what_is_no_fraction_of_the_map(self):
        for p, q in REFUSED_OF_THREE_DOTS:
            for k in (0, 1, GREATEST_K):
                with self.subTest(p=p, q=q, k=k):
                    self.assertEqual(answer_on([1, 2, 0], run(p, q, k)), REFUSED)


if __name__ == "__main__":
    unittest.main()
