"""Promise 3."""

import unittest

from tests.helper import REFUSED, REFUSED_OF_THREE_DOTS, answer_on, go, path, small_maps, some_maps_of_four


class Go(unittest.TestCase):
    def test_at_a_dot(self):
        self.assertEqual(answer_on([1, 2, 0], go(0, 1)), [1, 1])
        self.assertEqual(answer_on([1, 2, 0], go(1, 1)), [1, 2])
        self.assertEqual(answer_on([1, 2, 0], go(0, 10)), [1, 10])
        self.assertEqual(answer_on([1, 2, 0], go(10, 10)), [1, 20])

    def test_on_a_line_that_climbs(self):
        self.assertEqual(answer_on([0, 3, 1, 1], go(1, 4)), [1, 3])
        self.assertEqual(answer_on([0, 3, 1, 1], go(3, 4)), [1, 9])
        self.assertEqual(answer_on([1, 2, 0], go(1, 2)), [1, 3])

    def test_on_a_line_that_falls(self):
        self.assertEqual(answer_on([0, 3, 1, 1], go(5, 4)), [1, 10])
        self.assertEqual(answer_on([0, 3, 1, 1], go(7, 4)), [1, 6])
        self.assertEqual(answer_on([1, 2, 0], go(3, 2)), [1, 2])

    def test_on_a_level_line(self):
        self.assertEqual(answer_on([0, 3, 1, 1], go(9, 4)), [1, 4])
        self.assertEqual(answer_on([0, 3, 1, 1], go(11, 4)), [1, 4])

    def test_at_the_last_place(self):
        self.assertEqual(answer_on([0, 3, 1, 2], go(12, 4)), [1, 8])
        self.assertEqual(answer_on([0, 1, 2, 3, 4, 5, 6, 7], go(7, 1)), [1, 7])

    def test_fractions_are_not_reduced(self):
        self.assertEqual(answer_on([1, 2, 0], go(2, 4)), [1, 6])
        self.assertEqual(answer_on([1, 2, 0], go(50, 100)), [1, 150])

    def test_least_and_greatest_q(self):
        self.assertEqual(answer_on([1, 2, 0], go(2, 1)), [1, 0])
        self.assertEqual(answer_on([1, 2, 0], go(1, 1000000)), [1, 1000001])
        self.assertEqual(answer_on([1, 2, 0], go(1999999, 1000000)), [1, 2])
        self.assertEqual(answer_on([0, 0, 0, 0, 0, 0, 0, 7], go(7000000, 1000000)), [1, 7000000])

    def test_every_fraction_lies_on_the_drawn_line(self):
        for heights in small_maps() + some_maps_of_four():
            for q in range(1, 8):
                for p in range((len(heights) - 1) * q + 1):
                    with self.subTest(heights=heights, p=p, q=q):
                        self.assertEqual(answer_on(heights, go(p, q)), [1, path(heights, p, q, 1)[1]])

    def test_refuses_what_is_no_fraction_of_the_map(self):
        for p, q in REFUSED_OF_THREE_DOTS:
            with self.subTest(p=p, q=q):
                self.assertEqual(answer_on([1, 2, 0], go(p, q)), REFUSED)

    def test_refuses_p_from_one_above_the_last_place(self):
        for n in range(2, 9):
            for q in (1, 2, 999, 5000, 999999, 1000000):
                with self.subTest(n=n, q=q):
                    last = (n - 1) * q
                    self.assertEqual(answer_on([0] * (n - 1) + [1], go(last, q)), [1, q])
                    self.assertEqual(answer_on([0] * (n - 1) + [1], go(last + 1, q)), REFUSED)


if __name__ == "__main__":
    unittest.main()
