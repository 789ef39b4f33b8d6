"""Calls written out as the numbers of a line, and the words of the document worked out another way."""

from fractions import Fraction
from itertools import product

from comeround.maps import answers

DONE = [1, 0]
REFUSED = [1, -1]
NO_MAP = [1, -4]

BEGIN = [0]
GREATEST_K = 18446744073709551615

# The refusals of go, run and round on a map of three dots, as p and q.
REFUSED_OF_THREE_DOTS = (
    (0, 0),
    (1, 0),
    (4294967295, 0),
    (0, 1000001),
    (2000002, 1000001),
    (0, 4294967295),
    (4294967295, 4294967295),
    (3, 1),
    (4294967295, 1),
    (11, 5),
    (10001, 5000),
)

# On 8 dots by 5000: heights, p, moves before it comes round, period.
BY_5000 = (
    ([1, 4, 0, 3, 2, 3, 3, 6], 7711, 447, 16),
    ([3, 5, 6, 3, 2, 1, 4, 1], 25741, 0, 1833),
    ([0, 7, 0, 7, 0, 7, 0, 7], 1, 1, 100),
)


def map_of(heights):
    return [1, len(heights), len(heights)] + list(heights)


def map_without_heights(n):
    return [1, n, 0]


def go(p, q):
    return [2, p, q]


def run(p, q, k):
    return [3, p, q, k]


def come_round(p, q):
    return [4, p, q]


def answer_on(heights, call):
    """What the call answers behind a map of these heights."""
    told = answers(map_of(heights) + call)
    assert told[:2] == DONE, told
    return told[2:]


def moved_along_line(heights, x):
    """The height of the drawn line above x, straight from what a line between two dots is."""
    for i in range(len(heights) - 1):
        if i <= x <= i + 1:
            return heights[i] * (i + 1 - x) + heights[i + 1] * (x - i)
    raise AssertionError(f"{x} does not lie on the map")


def path(heights, p, q, moves):
    """The fraction p by q and what it is after 1, 2, .. moves, as multiples of 1 by q."""
    x = Fraction(p, q)
    went = [x]
    for step in range(moves):
        x = moved_along_line(heights, x)
        went.append(x)
    return [int(y * q) for y in went]


def round_by_words(heights, p, q):
    """Moves and period as the words say them: the first fraction on the way that is met again later."""
    fractions = (len(heights) - 1) * q + 1
    went = path(heights, p, q, 2 * fractions)
    for before in range(fractions):
        for period in range(1, fractions + 1):
            if went[before + period] == went[before]:
                return (before, period)
    raise AssertionError("no fraction on the way comes round")


def small_maps():
    """Every map of two and of three dots."""
    return [list(h) for n in (2, 3) for h in product(range(n), repeat=n)]


def some_maps_of_four():
    """Maps of four dots, spread over all 256 of them."""
    return [list(h) for h in list(product(range(4), repeat=4))[::7]]
