"""The interface: what is handed in, what is given back, and that nothing is kept."""

import unittest
from random import Random

from comeround.maps import answers
from tests.helper import (
    BEGIN,
    COUNT_MODULUS,
    DONE,
    GREATEST_K,
    NO,
    NO_MAP,
    REFUSED,
    YES,
    before,
    come_round,
    covers,
    covers_as_drawn,
    fractions_back,
    go,
    has,
    loops,
    map_of,
    map_without_heights,
    order_up_to,
    path,
    round_by_words,
    run,
    small_maps,
    steps_squared,
    walks,
)


def refuse_change(*arguments):
    raise AssertionError("what is handed in was changed")


class Unchanging(list):
    """A list that tells of a change even if it is undone before the answer."""

    append = clear = extend = insert = pop = remove = reverse = sort = refuse_change
    __setitem__ = __delitem__ = __iadd__ = __imul__ = refuse_change


# Twenty calls with their answers, gone through three times.
CALLS_AND_ANSWERS = (
    (go(0, 1), NO_MAP),
    (has(11), NO_MAP),
    (before(3, 4), YES),
    (map_without_heights(9), REFUSED),
    (map_of([1, 2, 0]), DONE),
    (go(1, 2), [1, 3]),
    (run(0, 1, GREATEST_K), [1, 0]),
    (come_round(0, 1), [3, 0, 0, 3]),
    (go(3, 1), REFUSED),
    (covers(0, 1), YES),
    (covers(0, 0), NO),
    (covers(0, 2), REFUSED),
    (walks(3), [2, 0, 8]),
    (walks(65), REFUSED),
    (loops(3), [2, 0, 4]),
    (has(3), YES),
    (map_of([0, 3, 0]), REFUSED),
    (loops(4294967295), REFUSED),
    (before(0, 1), REFUSED),
    (BEGIN, DONE),
) * 3
LONG_LINE = [number for call, answer in CALLS_AND_ANSWERS for number in call]
LONG_ANSWERS = [number for call, answer in CALLS_AND_ANSWERS for number in answer]


def sixty_calls_at_random(seed):
    """Every one of the ten calls and fifty more in any order, about maps of up to three dots."""
    source = Random(seed)
    numbers = list(range(10)) + [1] * 6 + [source.randrange(2, 10) for place in range(44)]
    source.shuffle(numbers)
    return [call_at_random(number, source) for number in numbers]


def call_at_random(number, source):
    """The call of this number, more often one that is not refused."""
    steps = source.choice((0, 1, 2, 5, 63, 64, 65, 4294967295))
    fraction = [source.randrange(7), source.choice((0, 1, 2, 3, 4, 1000001))]
    if number == 1:
        refused = [map_without_heights(0), map_without_heights(4294967295), map_of([2, 0]), map_of([0, 1, 3])]
        return source.choice(refused + [map_of(heights) for heights in small_maps()])
    rest = {
        0: [],
        2: fraction,
        3: fraction + [source.randrange(6)],
        4: fraction,
        5: [source.choice((0, 0, 0, 1, 1, 2, 4294967295)), source.choice((0, 0, 0, 1, 1, 2, 2147483648))],
        6: [steps],
        7: [steps],
        8: [source.randrange(12)],
        9: [source.randrange(13), source.randrange(13)],
    }
    return [number] + rest[number]


def answers_by_words(calls):
    """The answers to calls of up to three dots, each worked out another way than the program's."""
    heights = None
    told = []
    for call in calls:
        if call == BEGIN:
            heights = None
            answer = DONE
        elif call[0] == 1:
            fits = call[1] in range(2, 9) and all(height < call[1] for height in call[3:])
            heights = call[3:] if fits else heights
            answer = DONE if fits else REFUSED
        elif call[0] == 9:
            answer = before_by_words(call[1], call[2])
        else:
            answer = NO_MAP if heights is None else answer_by_words(heights, call)
        told = told + answer
    return told


def before_by_words(a, b):
    if 0 in (a, b):
        return REFUSED
    order = order_up_to(12)
    return YES if order.index(a) < order.index(b) else NO


def answer_by_words(heights, call):
    """What a call from go to has answers on a map."""
    number = call[0]
    first = call[1]
    gaps = range(len(heights) - 1)
    if number in (2, 3, 4):
        if call[2] not in range(1, 1000001) or first > len(gaps) * call[2]:
            return REFUSED
        if number == 4:
            return [3, 0] + list(round_by_words(heights, first, call[2]))
        moves = 1 if number == 2 else call[3]
        return [1, path(heights, first, call[2], moves)[moves]]
    if number == 5:
        if first not in gaps or call[2] not in gaps:
            return REFUSED
        return YES if covers_as_drawn(heights, first, call[2]) else NO
    if number == 8:
        if first not in range(1, 11):
            return REFUSED
        return YES if fractions_back(heights, first) else NO
    if first not in range(65):
        return REFUSED
    table = steps_squared(heights, first)
    count = sum(table[i][j] for i in gaps for j in gaps if number == 6 or i == j)
    return [2, 0, count % COUNT_MODULUS]


class Interface(unittest.TestCase):
    def test_one_call(self):
        self.assertEqual(answers([0]), [1, 0])
        self.assertEqual(answers([1, 2, 2, 0, 1]), [1, 0])
        self.assertEqual(answers([1, 8, 8, 0, 1, 2, 3, 4, 5, 6, 7]), [1, 0])
        self.assertEqual(answers([1, 4294967295, 0]), [1, -1])
        self.assertEqual(answers([2, 0, 1]), [1, -4])
        self.assertEqual(answers([3, 0, 1, 5]), [1, -4])
        self.assertEqual(answers([4, 0, 1]), [1, -4])
        self.assertEqual(answers([5, 0, 0]), [1, -4])
        self.assertEqual(answers([6, 0]), [1, -4])
        self.assertEqual(answers([7, 0]), [1, -4])
        self.assertEqual(answers([8, 1]), [1, -4])
        self.assertEqual(answers([9, 3, 1]), [1, 1])

    def test_counts_stand_before_the_answers(self):
        told = answers([1, 3, 3, 1, 2, 0, 2, 1, 2, 3, 1, 2, 2, 4, 0, 1, 4, 0, 0])
        self.assertEqual(told, [1, 0, 1, 3, 1, 2, 3, 0, 0, 3, 1, -1])
        told = answers([1, 3, 3, 1, 2, 0, 5, 1, 0, 6, 1, 7, 1, 8, 2, 9, 2, 3, 5, 2, 0, 6, 65, 7, 65, 8, 0, 9, 0, 0])
        self.assertEqual(told, [1, 0, 1, 1, 2, 0, 3, 2, 0, 1, 1, 1, 1, 0, 1, -1, 1, -1, 1, -1, 1, -1, 1, -1])

    def test_sixty_calls(self):
        self.assertEqual(answers(LONG_LINE), LONG_ANSWERS)
        self.assertEqual(answers(BEGIN * 60), DONE * 60)
        heights = [2, 6, 3, 4, 5, 6, 7, 2]
        told = answers(map_of(heights) + come_round(28312, 4993) * 59)
        self.assertEqual(told, DONE + [3, 0, 0, 14976] * 59)

    def test_sixty_calls_in_any_order(self):
        for seed in range(150):
            calls = sixty_calls_at_random(seed)
            with self.subTest(seed=seed):
                told = answers([number for call in calls for number in call])
                self.assertEqual(told, answers_by_words(calls))

    def test_numbers_like_those_of_calls_are_not_taken_for_calls(self):
        told = answers(map_of([4, 0, 1, 2, 3]) + go(0, 2) + run(3, 4, 1) + come_round(1, 1) + BEGIN)
        self.assertEqual(told, DONE + [1, 8] + [1, 4] + [3, 0, 0, 5] + DONE)
        told = answers(map_of([1, 2, 0]) + covers(0, 1) + walks(9) + loops(8) + has(7) + before(6, 5) + has(1))
        self.assertEqual(told, DONE + YES + [2, 0, 144] + [2, 0, 47] + YES + NO + YES)

    def test_gives_back_plain_whole_numbers(self):
        told = answers(list(LONG_LINE))
        self.assertIs(type(told), list)
        self.assertEqual({type(number) for number in told}, {int})

    def test_changes_nothing_that_is_handed_in(self):
        handed_in = Unchanging(LONG_LINE)
        self.assertEqual(answers(handed_in), LONG_ANSWERS)
        self.assertEqual(list(handed_in), list(LONG_LINE))

    def test_gives_back_a_list_of_its_own(self):
        first = answers(map_of([1, 0]))
        first.append(7)
        self.assertEqual(answers(map_of([1, 0])), DONE)

    def test_keeps_nothing_from_one_time_to_the_next(self):
        self.assertEqual(answers(map_of([1, 2, 0])), DONE)
        for call in (go(0, 1), run(0, 1, 1), come_round(0, 1), covers(0, 0), walks(0), loops(0), has(1)):
            self.assertEqual(answers(call), NO_MAP)
        self.assertEqual(answers(map_of([1, 2, 1]) + come_round(0, 1)), DONE + [3, 0, 1, 2])
        self.assertEqual(answers(map_of([1, 2, 0]) + come_round(0, 1)), DONE + [3, 0, 0, 3])
        self.assertEqual(answers(map_of([1, 2, 1]) + come_round(0, 1)), DONE + [3, 0, 1, 2])
        self.assertEqual(answers(map_of([1, 2, 0]) + loops(4) + has(3)), DONE + [2, 0, 7] + YES)
        self.assertEqual(answers(map_of([1, 2, 1]) + loops(4) + has(3)), DONE + [2, 0, 1] + NO)
        self.assertEqual(answers(map_of([1, 2, 0]) + loops(4) + has(3)), DONE + [2, 0, 7] + YES)
        self.assertEqual(answers(LONG_LINE), answers(LONG_LINE))


if __name__ == "__main__":
    unittest.main()
