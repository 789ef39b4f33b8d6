"""Promise 5."""

import unittest

from tests.helper import (
    BY_5000,
    REFUSED,
    REFUSED_OF_THREE_DOTS,
    answer_on,
    come_round,
    path,
    round_by_words,
    small_maps,
    some_maps_of_four,
)


class Round(unittest.TestCase):
    def test_at_rest(self):
        self.assertEqual(answer_on([0, 1], come_round(0, 1)), [3, 0, 0, 1])
        self.assertEqual(answer_on([1, 0], come_round(1, 2)), [3, 0, 0, 1])
        self.assertEqual(answer_on([0, 2, 0], come_round(4, 3)), [3, 0, 0, 1])

    def test_back_after_2_moves(self):
        self.assertEqual(answer_on([1, 0], come_round(0, 1)), [3, 0, 0, 2])
        self.assertEqual(answer_on([1, 0], come_round(1, 3)), [3, 0, 0, 2])
        self.assertEqual(answer_on([0, 2, 0], come_round(4, 5)), [3, 0, 0, 2])

    def test_back_after_3_moves(self):
        self.assertEqual(answer_on([1, 2, 0], come_round(0, 1)), [3, 0, 0, 3])
        self.assertEqual(answer_on([0, 2, 0], come_round(4, 7)), [3, 0, 0, 3])

    def test_only_after_some_moves(self):
        self.assertEqual(answer_on([1, 1], come_round(0, 1)), [3, 0, 1, 1])
        self.assertEqual(answer_on([1, 2, 1], come_round(0, 1)), [3, 0, 1, 2])
        self.assertEqual(answer_on([0, 2, 0], come_round(1, 4)), [3, 0, 4, 1])
        self.assertEqual(answer_on([0, 2, 0], come_round(2, 10)), [3, 0, 2, 2])

    def test_the_last_place(self):
        self.assertEqual(answer_on([1, 2, 0], come_round(2, 1)), [3, 0, 0, 3])
        self.assertEqual(answer_on([0, 2, 0], come_round(10000, 5000)), [3, 0, 1, 1])
        self.assertEqual(answer_on([1, 2, 3, 4, 5, 6, 7, 0], come_round(35000, 5000)), [3, 0, 0, 8])

    def test_small_maps_against_the_words(self):
        for heights in small_maps() + some_maps_of_four():
            for q in (1, 2, 3, 5):
                for p in range((len(heights) - 1) * q + 1):
                    with self.subTest(heights=heights, p=p, q=q):
                        told = answer_on(heights, come_round(p, q))
                        self.assertEqual(told, [3, 0] + list(round_by_words(heights, p, q)))

    def test_q_of_5000_with_8_dots(self):
        for heights, p, before, period in BY_5000:
            with self.subTest(heights=heights, p=p):
                self.assertEqual(answer_on(heights, come_round(p, 5000)), [3, 0, before, period])
                went = path(heights, p, 5000, before + period)
                self.assertEqual(len(set(went)), before + period)
                self.assertEqual(went[before], went[before + period])

    def test_a_way_much_longer_than_calls_may_nest(self):
        heights = [2, 6, 3, 4, 5, 6, 7, 2]
        self.assertEqual(answer_on(heights, come_round(28312, 4993)), [3, 0, 0, 14976])

    def test_refuses_what_is_no_fraction_of_the_map(self):
        for p, q in REFUSED_OF_THREE_DOTS:
            with self.subTest(p=p, q=q):
                self.assertEqual(answer_on([1, 2, 0], come_round(p, q)), REFUSED)


if __name__ == "__main__":
    unittest.main()
