"""Calls written out as the numbers of a line, and the words of the document worked out another way."""

from fractions import Fraction
from functools import lru_cache
from itertools import product

from comeround.maps import answers

DONE = [1, 0]
REFUSED = [1, -1]
NO_MAP = [1, -4]

YES = [1, 1]
NO = [1, 0]

BEGIN = [0]
GREATEST_K = 18446744073709551615
COUNT_MODULUS = 18446744073709551616

# Heights that go up and down as far as they can: each of the 7 gaps covers all 7.
UP_AND_DOWN = (0, 7, 0, 7, 0, 7, 0, 7)

# The refusals of go, run and round on a map of three dots, as p and q.
REFUSED_OF_THREE_DOTS = (
    (0, 0),
    (1, 0),
    (4294967295, 0),
    (0, 1000001),
    (2000002, 1000001),
    (0, 4294967295),
    (4294967295, 4294967295),
    (3, 1),
    (4294967295, 1),
    (11, 5),
    (10001, 5000),
)

# On 8 dots by 5000: heights, p, moves before it comes round, period.
BY_5000 = (
    ([1, 4, 0, 3, 2, 3, 3, 6], 7711, 447, 16),
    ([3, 5, 6, 3, 2, 1, 4, 1], 25741, 0, 1833),
    ([0, 7, 0, 7, 0, 7, 0, 7], 1, 1, 100),
)


def map_of(heights):
    return [1, len(heights), len(heights)] + list(heights)


def map_without_heights(n):
    return [1, n, 0]


def go(p, q):
    return [2, p, q]


def run(p, q, k):
    return [3, p, q, k]


def come_round(p, q):
    return [4, p, q]


def covers(i, j):
    return [5, i, j]


def walks(k):
    return [6, k]


def loops(k):
    return [7, k]


def has(k):
    return [8, k]


def before(a, b):
    return [9, a, b]


def answer_on(heights, call):
    """What the call answers behind a map of these heights."""
    told = answers(map_of(heights) + call)
    assert told[:2] == DONE, told
    return told[2:]


def moved_along_line(heights, x):
    """The height of the drawn line above x, straight from what a line between two dots is."""
    for i in range(len(heights) - 1):
        if i <= x <= i + 1:
            return heights[i] * (i + 1 - x) + heights[i + 1] * (x - i)
    raise AssertionError(f"{x} does not lie on the map")


def path(heights, p, q, moves):
    """The fraction p by q and what it is after 1, 2, .. moves, as multiples of 1 by q."""
    x = Fraction(p, q)
    went = [x]
    for step in range(moves):
        x = moved_along_line(heights, x)
        went.append(x)
    return [int(y * q) for y in went]


def round_by_words(heights, p, q):
    """Moves and period as the words say them: the first fraction on the way that is met again later."""
    fractions = (len(heights) - 1) * q + 1
    went = path(heights, p, q, 2 * fractions)
    for before in range(fractions):
        for period in range(1, fractions + 1):
            if went[before + period] == went[before]:
                return (before, period)
    raise AssertionError("no fraction on the way comes round")


def small_maps():
    """Every map of two and of three dots."""
    return [list(h) for n in (2, 3) for h in product(range(n), repeat=n)]


def some_maps_of_four():
    """Maps of four dots, spread over all 256 of them."""
    return [list(h) for h in list(product(range(4), repeat=4))[::7]]


def gaps_of(heights):
    return range(len(heights) - 1)


def covers_as_drawn(heights, i, j):
    """Whether the line above gap i passes the height midway between j and j + 1, as it then passes all between."""
    midway = j + Fraction(1, 2)
    return (heights[i] - midway) * (heights[i + 1] - midway) < 0


def walks_one_by_one(heights, k):
    """Every walk of k steps, picked from all rows of k + 1 gaps."""
    return [
        row
        for row in product(gaps_of(heights), repeat=k + 1)
        if all(covers_as_drawn(heights, i, j) for i, j in zip(row, row[1:]))
    ]


def steps_squared(heights, k):
    """How many walks of k steps lead from gap to gap, by squaring the table of one step."""
    size = gaps_of(heights)
    table = [[int(i == j) for j in size] for i in size]
    power = [[int(covers_as_drawn(heights, i, j)) for j in size] for i in size]
    while k > 0:
        if k % 2 == 1:
            table = table_product(table, power)
        power = table_product(power, power)
        k = k // 2
    return table


def table_product(left, right):
    return [[sum(a * b for a, b in zip(row, column)) for column in zip(*right)] for row in left]


@lru_cache(maxsize=None)
def straight_pieces(heights, moves):
    """The line drawn by so many moves at once, as straight pieces: from where, to where, the heights there."""
    if moves == 0:
        return [(Fraction(i), Fraction(i + 1), Fraction(i), Fraction(i + 1)) for i in gaps_of(heights)]
    return [
        (left, right, moved_along_line(heights, first), moved_along_line(heights, last))
        for piece in straight_pieces(heights, moves - 1)
        for left, right, first, last in cut_at_dots(piece)
    ]


def cut_at_dots(piece):
    """The piece in parts, cut where its height is a whole number: there the next move turns."""
    left, right, first, last = piece
    if first == last:
        return [piece]
    wholes = [Fraction(dot) for dot in range(8) if min(first, last) < dot < max(first, last)]
    turns = [first] + sorted(wholes, reverse=first > last) + [last]
    places = [left + (right - left) * (turn - first) / (last - first) for turn in turns]
    return list(zip(places, places[1:], turns, turns[1:]))


def back_on_piece(piece):
    """The fractions on a straight piece that are where they were; of a whole piece of such, enough to be sure."""
    left, right, first, last = piece
    if (first, last) == (left, right):
        # Fewer moves leave all of the piece where it was or one fraction of it at most,
        # and no number up to 10 has more than 3 lesser divisors.
        return [left + (right - left) * Fraction(part, 6) for part in range(7)]
    slope = (last - first) / (right - left)
    if slope == 1:
        return []
    x = (first - slope * left) / (1 - slope)
    return [x] if left <= x <= right else []


def period_up_to(heights, x, k):
    """The period of x if it is no more than k, else 0."""
    y = x
    for moves in range(1, k + 1):
        y = moved_along_line(heights, y)
        if y == x:
            return moves
    return 0


def fractions_back(heights, k):
    """Fractions that come round in k moves, found on the line drawn by k moves: all, or enough of a whole piece."""
    pieces = straight_pieces(tuple(heights), k)
    found = {x for piece in pieces for x in back_on_piece(piece)}
    return sorted(x for x in found if period_up_to(heights, x, k) == k)


def order_up_to(greatest):
    """The numbers from 1 to the greatest in their order, written down as the words go through them."""
    order = []
    power = 1
    powers = []
    while power <= greatest:
        powers.append(power)
        order.extend(range(3 * power, greatest + 1, 2 * power))
        power = 2 * power
    return order + powers[::-1]
