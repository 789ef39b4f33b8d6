"""Promises 1 and 2, and -4 as long as there is no map."""

import unittest

from comeround.maps import answers
from tests.helper import (
    BEGIN,
    DONE,
    NO,
    NO_MAP,
    REFUSED,
    YES,
    come_round,
    covers,
    go,
    has,
    loops,
    map_of,
    map_without_heights,
    run,
    walks,
)

NEEDING_A_MAP = (go(0, 1), run(0, 1, 0), come_round(0, 1), covers(0, 0), walks(0), loops(0), has(1))
REFUSED_N = (0, 1, 9, 10, 255, 2147483647, 2147483648, 2147483650, 4294967295)


class Begin(unittest.TestCase):
    def test_answers_0(self):
        self.assertEqual(answers(BEGIN), DONE)
        self.assertEqual(answers(BEGIN + BEGIN), DONE + DONE)

    def test_takes_the_map_away(self):
        for call in NEEDING_A_MAP:
            with self.subTest(call=call):
                told = answers(map_of([1, 0]) + BEGIN + call)
                self.assertEqual(told, DONE + DONE + NO_MAP)

    def test_a_map_can_follow(self):
        told = answers(map_of([1, 0]) + BEGIN + map_of([0, 0]) + go(1, 1))
        self.assertEqual(told, DONE + DONE + DONE + [1, 0])


class NoMap(unittest.TestCase):
    def test_at_first_there_is_none(self):
        for call in NEEDING_A_MAP:
            with self.subTest(call=call):
                self.assertEqual(answers(call), NO_MAP)

    def test_is_told_ahead_of_other_refusals(self):
        for p, q in ((0, 0), (4294967295, 0), (0, 1000001), (9, 1), (4294967295, 4294967295)):
            for call in (go(p, q), run(p, q, 5), come_round(p, q)):
                with self.subTest(call=call):
                    self.assertEqual(answers(call), NO_MAP)
                    self.assertEqual(answers(map_of([0, 1]) + BEGIN + call)[4:], NO_MAP)


class Map(unittest.TestCase):
    def test_of_each_number_of_dots(self):
        for n in range(2, 9):
            with self.subTest(n=n):
                heights = [n - 1 - i for i in range(n)]
                told = answers(map_of(heights) + go(0, 1) + go(n - 1, 1) + go(n, 1))
                self.assertEqual(told, DONE + [1, n - 1] + [1, 0] + REFUSED)

    def test_keeps_the_heights_in_their_order(self):
        heights = [3, 1, 4, 1, 5, 7, 2, 6]
        told = answers(map_of(heights) + [number for i in range(8) for number in go(i, 1)])
        self.assertEqual(told, DONE + [number for height in heights for number in (1, height)])

    def test_refuses_n_outside_2_to_8(self):
        for n in REFUSED_N:
            with self.subTest(n=n):
                self.assertEqual(answers(map_without_heights(n)), REFUSED)

    def test_refuses_a_height_of_n_or_more(self):
        for n in range(2, 9):
            for place in range(n):
                for height in (n, n + 1, 255):
                    heights = [0] * n
                    heights[place] = height
                    with self.subTest(heights=heights):
                        self.assertEqual(answers(map_of(heights)), REFUSED)

    def test_takes_the_greatest_height_at_every_place(self):
        for n in range(2, 9):
            self.assertEqual(answers(map_of([n - 1] * n)), DONE)

    def test_refused_leaves_no_map(self):
        for refused in (map_without_heights(0), map_without_heights(4294967295), map_of([0, 2])):
            with self.subTest(refused=refused):
                self.assertEqual(answers(refused + go(0, 1)), REFUSED + NO_MAP)

    def test_refused_leaves_the_map_before_it(self):
        refusals = [map_without_heights(n) for n in REFUSED_N]
        refusals = refusals + [map_of([0, 2]), map_of([3, 0, 0]), map_of([0, 0, 0, 0, 0, 0, 0, 8])]
        for refused in refusals:
            with self.subTest(refused=refused):
                told = answers(map_of([1, 2, 0]) + refused + go(1, 2) + run(2, 1, 2) + come_round(0, 1))
                self.assertEqual(told, DONE + REFUSED + [1, 3] + [1, 1] + [3, 0, 0, 3])
                told = answers(map_of([1, 2, 0]) + refused + covers(1, 1) + walks(2) + loops(2) + has(3))
                self.assertEqual(told, DONE + REFUSED + YES + [2, 0, 5] + [2, 0, 3] + YES)

    def test_takes_the_place_of_the_one_before(self):
        told = answers(map_of([1, 2, 0]) + map_of([1, 0]) + go(0, 1) + go(1, 1) + go(2, 1))
        self.assertEqual(told, DONE + DONE + [1, 1] + [1, 0] + REFUSED)
        told = answers(map_of([1, 2, 0]) + map_of([1, 0]) + covers(1, 1) + walks(2) + loops(2) + has(3))
        self.assertEqual(told, DONE + DONE + REFUSED + [2, 0, 1] + [2, 0, 1] + NO)


if __name__ == "__main__":
    unittest.main()
