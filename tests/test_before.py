"""Promise 10."""

import unittest

from comeround.maps import answers
from tests.helper import BEGIN, DONE, NO, REFUSED, YES, answer_on, before, map_of, order_up_to

# Each is before all that follow it.
GREAT = (
    3,
    4294967293,
    4294967295,
    6,
    4294967290,
    4294967294,
    1610612736,
    3221225472,
    2147483648,
    1073741824,
    4,
    2,
    1,
)


class Before(unittest.TestCase):
    def assert_before(self, a, b):
        self.assertEqual(answers(before(a, b)), YES, (a, b))
        self.assertEqual(answers(before(b, a)), NO, (b, a))

    def test_the_lesser_power_of_2(self):
        self.assert_before(3, 6)
        self.assert_before(99, 6)
        self.assert_before(10, 12)
        self.assert_before(14, 12)

    def test_of_equal_powers_the_lesser_odd_number(self):
        self.assert_before(3, 5)
        self.assert_before(7, 9)
        self.assert_before(6, 10)
        self.assert_before(12, 20)

    def test_powers_of_2_behind_all_others(self):
        self.assert_before(3, 1)
        self.assert_before(96, 2)
        self.assert_before(3, 1024)
        self.assert_before(5, 4)

    def test_of_powers_of_2_the_greater(self):
        self.assert_before(2, 1)
        self.assert_before(8, 4)
        self.assert_before(1024, 512)

    def test_alike_neither_is_before_the_other(self):
        for a in (1, 2, 3, 6, 7, 8, 12) + GREAT:
            self.assertEqual(answers(before(a, a)), NO)

    def test_great_numbers(self):
        for place, a in enumerate(GREAT):
            for b in GREAT[place + 1:]:
                with self.subTest(a=a, b=b):
                    self.assert_before(a, b)

    def test_all_up_to_70_as_they_are_written_down(self):
        self.assertEqual(order_up_to(10), [3, 5, 7, 9, 6, 10, 8, 4, 2, 1])
        order = order_up_to(70)
        self.assertEqual(sorted(order), list(range(1, 71)))
        for place, a in enumerate(order):
            for b in order[place + 1:]:
                self.assert_before(a, b)

    def test_refuses_0(self):
        for other in (0, 1, 2, 3) + GREAT:
            with self.subTest(other=other):
                self.assertEqual(answers(before(0, other)), REFUSED)
                self.assertEqual(answers(before(other, 0)), REFUSED)

    def test_needs_no_map_and_looks_at_none(self):
        self.assertEqual(answers(before(3, 5)), YES)
        self.assertEqual(answers(map_of([0, 1]) + BEGIN + before(5, 3)), DONE + DONE + NO)
        self.assertEqual(answer_on([1, 2, 0], before(3, 5)), YES)
        self.assertEqual(answer_on([1, 2, 0], before(5, 3)), NO)
        self.assertEqual(answer_on([1, 2, 0], before(5, 0)), REFUSED)


if __name__ == "__main__":
    unittest.main()
