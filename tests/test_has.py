"""Promise 9."""

import unittest
from fractions import Fraction
from random import Random
from time import perf_counter

from comeround.maps import answers
from tests.helper import (
    BEGIN,
    DONE,
    NO,
    NO_MAP,
    REFUSED,
    UP_AND_DOWN,
    YES,
    answer_on,
    before,
    fractions_back,
    has,
    map_of,
    period_up_to,
    small_maps,
    some_maps_of_four,
)

ALL = range(1, 11)
REFUSED_PERIODS = (0, 11, 12, 255, 2147483647, 2147483648, 2147483649, 4294967286, 4294967294, 4294967295)

# Heights, and what of 1 to 10 they have as periods.
KNOWN = (
    # A dot stays, and all else is moved to it.
    ([0, 0], [1]),
    ([1, 1], [1]),
    ([5] * 8, [1]),
    ([0, 0, 1, 2, 3, 4, 5, 6], [1]),
    # All stay where they are; some do.
    ([0, 1], [1]),
    ([0, 1, 2, 3, 4, 5, 6, 7], [1]),
    ([0, 1, 1], [1]),
    # All but the middle change places two by two.
    ([1, 0], [1, 2]),
    ([2, 1, 0], [1, 2]),
    ([7, 6, 5, 4, 3, 2, 1, 0], [1, 2]),
    # The first and the last gap change places as they are; one of them turned round.
    ([2, 3, 0, 1], [1, 2]),
    ([3, 2, 0, 1], [1, 2, 4]),
    # Two level lines one of which is under the other.
    ([2, 2, 0], [1, 2]),
    # Dots that come back after 3 moves bring all the others.
    ([1, 2, 0], ALL),
    ([2, 0, 1], ALL),
    # Each gap is drawn out over all of them.
    ([0, 2, 0], ALL),
    ([0, 3, 0, 3], ALL),
    (UP_AND_DOWN, ALL),
    # Dots that come back after 5 moves, and after 7, from the middle to either side by turns.
    ([2, 4, 3, 1, 0], [1, 2, 4, 5, 6, 7, 8, 9, 10]),
    ([3, 6, 5, 4, 2, 1, 0], [1, 2, 4, 6, 7, 8, 9, 10]),
    # Twice 3: two halves change places, and two moves are one of period 3 on each of them.
    ([3, 5, 4, 2, 1, 0], [1, 2, 4, 6, 8, 10]),
    # 4 and 8 dots: halves change places, and so do the halves of these.
    ([2, 3, 1, 0], [1, 2, 4]),
    ([4, 5, 6, 7, 2, 3, 1, 0], [1, 2, 4, 8]),
)

# By period: heights of which nothing but dots comes round in so many moves.
ONLY_DOTS = {
    1: [0, 0],
    2: [2, 2, 0],
    3: [1, 2, 0],
    4: [5, 3, 3, 0, 2, 2],
    5: [2, 4, 3, 1, 0],
    6: [6, 4, 5, 0, 0, 1, 2],
    7: [3, 6, 5, 4, 2, 1, 0],
}

# By period: heights no dot of which comes round in so many moves, while fractions do.
NO_DOTS = {
    1: [1, 2, 0],
    2: [1, 2, 0],
    3: [0, 2, 0],
    4: [1, 2, 0],
    5: [1, 2, 0],
    6: [1, 2, 0],
    7: [2, 4, 3, 1, 0],
    8: [2, 4, 3, 1, 0],
    9: [2, 4, 3, 1, 0],
    10: [3, 5, 4, 2, 1, 0],
}


def periods(heights):
    """What of 1 to 10 the map is told to have."""
    told = answers(map_of(heights) + [number for k in ALL for number in has(k)])
    answered = {k: told[2 * k:2 * k + 2] for k in ALL}
    assert all(answer in (YES, NO) for answer in answered.values()), told
    return [k for k in ALL if answered[k] == YES]


def random_maps(seed, count):
    """Maps of 5 to 8 dots, some of them with every height once, some going up and down by little."""
    source = Random(seed)
    found = []
    while len(found) < count:
        n = source.randrange(5, 9)
        mixed = list(range(n))
        source.shuffle(mixed)
        found.append(mixed)
        found.append([source.randrange(n) for i in range(n)])
        near = [source.randrange(n)]
        while len(near) < n:
            near.append(min(n - 1, max(0, near[-1] + source.choice((-2, -1, 0, 1, 2)))))
        found.append(near)
    return found


class Has(unittest.TestCase):
    def test_known_periods(self):
        for heights, expected in KNOWN:
            with self.subTest(heights=heights):
                self.assertEqual(periods(heights), list(expected))

    def test_only_dots_come_round(self):
        for k, heights in ONLY_DOTS.items():
            with self.subTest(k=k):
                self.assertEqual({x.denominator for x in fractions_back(heights, k)}, {1})
                self.assertEqual(answer_on(heights, has(k)), YES)

    def test_only_fractions_between_dots_come_round(self):
        for k, heights in NO_DOTS.items():
            with self.subTest(k=k):
                found = fractions_back(heights, k)
                self.assertGreater(len(found), 0)
                self.assertNotIn(1, {x.denominator for x in found})
                self.assertEqual(answer_on(heights, has(k)), YES)

    def test_only_the_middle_of_a_gap_that_is_turned_round(self):
        self.assertEqual(fractions_back([3, 2, 0, 1], 2), [Fraction(1, 2), Fraction(5, 2)])
        self.assertEqual(answer_on([3, 2, 0, 1], has(2)), YES)

    def test_by_a_number_above_all_that_can_be_handed_in_as_q(self):
        heights = [7, 1, 3, 3, 3, 0, 0, 4]
        self.assertEqual(min(x.denominator for x in fractions_back(heights, 10)), 2519425)
        self.assertEqual(period_up_to(heights, Fraction(382854, 2519425), 10), 10)
        self.assertEqual(periods(heights), [1, 2, 4, 6, 8, 10])

    def test_small_maps_on_the_line_drawn_by_k_moves(self):
        for heights in small_maps():
            with self.subTest(heights=heights):
                self.assertEqual(periods(heights), [k for k in ALL if fractions_back(heights, k)])

    def test_maps_of_four_on_the_line_drawn_by_k_moves(self):
        for heights in some_maps_of_four():
            with self.subTest(heights=heights):
                expected = [k for k in range(1, 8) if fractions_back(heights, k)]
                self.assertEqual([k for k in periods(heights) if k < 8], expected)

    def test_greater_maps_on_the_line_drawn_by_k_moves(self):
        for heights in random_maps(1, 120):
            with self.subTest(heights=heights):
                expected = [k for k in range(1, 5) if fractions_back(heights, k)]
                self.assertEqual([k for k in periods(heights) if k < 5], expected)

    def test_greater_maps_with_few_pieces_for_every_k(self):
        for heights in ONLY_DOTS.values():
            with self.subTest(heights=heights):
                self.assertEqual(periods(heights), [k for k in ALL if fractions_back(heights, k)])

    def test_a_period_brings_all_behind_it_in_the_order(self):
        for heights in random_maps(2, 300):
            found = periods(heights)
            with self.subTest(heights=heights):
                for a in found:
                    self.assertEqual([b for b in ALL if answers(before(a, b)) == YES and b not in found], [])

    def test_answers_soon(self):
        begun = perf_counter()
        for heights in (UP_AND_DOWN, UP_AND_DOWN[::-1], [0, 6, 0, 6, 0, 6, 0]):
            self.assertEqual(answers(map_of(heights) + has(10) * 59), DONE + YES * 59)
        # It takes a small part of a second; going along every loop would take minutes.
        self.assertLess(perf_counter() - begun, 20)

    def test_refuses_k_outside_1_to_10(self):
        for k in REFUSED_PERIODS:
            for heights in ([0, 0], [1, 2, 0], UP_AND_DOWN):
                with self.subTest(k=k, heights=heights):
                    self.assertEqual(answer_on(heights, has(k)), REFUSED)

    def test_no_map_whatever_k_is(self):
        for k in tuple(ALL) + REFUSED_PERIODS:
            with self.subTest(k=k):
                self.assertEqual(answers(has(k)), NO_MAP)
                self.assertEqual(answers(map_of([0, 1]) + BEGIN + has(k)), DONE + DONE + NO_MAP)


if __name__ == "__main__":
    unittest.main()
