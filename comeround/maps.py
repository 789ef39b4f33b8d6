"""The answers to one line of calls, which is about one map."""

BEGIN = 0
MAP = 1
GO = 2
RUN = 3
COVERS = 5
WALKS = 6
LOOPS = 7
HAS = 8
BEFORE = 9

# How many whole numbers stand behind a call's number, by that number.
WHOLE_NUMBERS = (0, 1, 2, 3, 2, 2, 1, 1, 1, 2)

DONE = 0
REFUSED = -1
NO_MAP = -4

# Where an int is asked for, one below 0 is handed in as 2147483648 or more.
# No call takes so great a number, so it is refused as too great and never turned back.
FEWEST_DOTS = 2
MOST_DOTS = 8
GREATEST_Q = 1000000
MOST_STEPS = 64
GREATEST_PERIOD = 10

# 2 to the 64, by which walks and loops are told.
COUNT_MODULUS = 18446744073709551616


def answers(calls):
    """For each call in order, how many numbers are answered, and these."""
    # A map has two heights or more, so no heights can stand for no map.
    heights = []
    told = []
    place = 0
    while place < len(calls):
        end = end_of_call(calls, place)
        call = calls[place:end]
        answer = answer_to(heights, call)
        told.append(len(answer))
        told.extend(answer)
        heights = heights_after(heights, call)
        place = end
    return told


def end_of_call(calls, place):
    """The place behind the call that begins at this place."""
    end = place + 1 + WHOLE_NUMBERS[calls[place]]
    if calls[place] == MAP:
        end = end + 1 + calls[end]
    return end


def heights_after(heights, call):
    """The heights of the map that there is once the call is answered."""
    if call[0] == BEGIN:
        return []
    if call[0] == MAP and is_map(call[1], call[3:]):
        return call[3:]
    return heights


def answer_to(heights, call):
    """The numbers that the call answers while the map has these heights."""
    if call[0] == BEGIN:
        return [DONE]
    if call[0] == MAP:
        return [DONE if is_map(call[1], call[3:]) else REFUSED]
    if call[0] == BEFORE:
        return [answer_about_order(call[1], call[2])]
    if len(heights) == 0:
        return [NO_MAP]
    if call[0] == COVERS:
        return [answer_about_covering(heights, call[1], call[2])]
    if call[0] == WALKS or call[0] == LOOPS:
        return answer_about_steps(heights, call)
    if call[0] == HAS:
        return [answer_about_period(heights, call[1])]
    return answer_about_fraction(heights, call)


def answer_about_fraction(heights, call):
    """What go, run or round answers once there is a map."""
    p = call[1]
    q = call[2]
    if not is_fraction(heights, p, q):
        return [REFUSED]
    if call[0] == GO:
        return [moved(heights, p, q)]
    if call[0] == RUN:
        return [moved_often(heights, p, q, call[3])]
    # Only round is left.
    return [DONE] + coming_round(heights, p, q)


def answer_about_covering(heights, i, j):
    """What covers answers once there is a map."""
    if i >= gaps_of(heights) or j >= gaps_of(heights):
        return REFUSED
    return 1 if covers(heights, i, j) else 0


def answer_about_steps(heights, call):
    """What walks or loops answers once there is a map."""
    k = call[1]
    if k > MOST_STEPS:
        return [REFUSED]
    if call[0] == WALKS:
        return [DONE, walks_of(heights, k) % COUNT_MODULUS]
    return [DONE, loops_of(heights, k) % COUNT_MODULUS]


def answer_about_period(heights, k):
    """What has answers once there is a map."""
    if k < 1 or k > GREATEST_PERIOD:
        return REFUSED
    return 1 if has_period(heights, k) else 0


def answer_about_order(a, b):
    """What before answers."""
    if a == 0 or b == 0:
        return REFUSED
    return 1 if rank(a) < rank(b) else 0


def is_map(n, heights):
    """Whether n is one that a map can have and every height is below it."""
    if n < FEWEST_DOTS or n > MOST_DOTS:
        return False
    return max(heights) < n


def is_fraction(heights, p, q):
    """Whether p by q is a fraction that the map moves."""
    if q < 1 or q > GREATEST_Q:
        return False
    return p <= gaps_of(heights) * q


def moved(heights, p, q):
    """To how many by q the map moves p by q."""
    i = p // q
    r = p % q
    if r == 0:
        # Behind the last place there is no dot to draw a line to.
        return heights[i] * q
    return heights[i] * q + r * (heights[i + 1] - heights[i])


def moved_often(heights, p, q, k):
    """To how many by q the map moves p by q in k moves."""
    # k may be far too great to make every move, so whole periods are left out.
    found = coming_round(heights, p, q)
    before = found[0]
    period = found[1]
    left = k
    if k > before:
        left = before + (k - before) % period
    for move in range(left):
        p = moved(heights, p, q)
    return p


def coming_round(heights, p, q):
    """After how many moves p by q is first at a fraction that comes round, and that one's period."""
    # All that p by q moves to is by q too, and so is one of finitely many:
    # the first that is met again is the first that comes round.
    moves_until = {}
    while p not in moves_until:
        moves_until[p] = len(moves_until)
        p = moved(heights, p, q)
    before = moves_until[p]
    return [before, len(moves_until) - before]


def gaps_of(heights):
    """How many gaps the map has."""
    return len(heights) - 1


def covers(heights, i, j):
    """Whether gap i covers gap j."""
    return j >= lesser_height(heights, i) and j + 1 <= greater_height(heights, i)


def lesser_height(heights, i):
    """The lesser of the heights of the two dots that gap i lies between."""
    return min(heights[i], heights[i + 1])


def greater_height(heights, i):
    """The greater of the heights of the two dots that gap i lies between."""
    return max(heights[i], heights[i + 1])


def walks_of(heights, k):
    """How many walks of k steps there are."""
    return sum(walks_from_each(heights, k, [1] * gaps_of(heights)))


def loops_of(heights, k):
    """How many loops of k steps there are."""
    count = 0
    for first in range(gaps_of(heights)):
        only_first = [0] * gaps_of(heights)
        only_first[first] = 1
        count = count + walks_from_each(heights, k, only_first)[first]
    return count


def walks_from_each(heights, k, last):
    """For each gap, how many walks of k steps begin there and end in a gap that is 1, not 0, in last."""
    counts = last
    for step in range(k):
        counts = [covered_sum(heights, i, counts) for i in range(gaps_of(heights))]
    return counts


def covered_sum(heights, i, counts):
    """The sum of the counts of those gaps that gap i covers."""
    # These lie side by side, so that they need not be asked for one by one.
    return sum(counts[lesser_height(heights, i):greater_height(heights, i)])


def has_period(heights, k):
    """Whether some fraction comes round in k moves."""
    if quarter_comes_round(heights, k):
        return True
    # A dot is moved to a dot, so a fraction between dots that comes round in k moves goes along
    # a loop of k steps that repeats no shorter one. The other way round, each such loop has just
    # one fraction that goes along it and is back at its end, since its lines together stretch:
    # had they all slopes of 1 or -1, a quarter would have come round. Between dots that fraction
    # comes round in k moves and no fewer. If it is a dot, which need not do so, then the edge of
    # the loop's first gap at this dot does: so many loops as there are such edges do not count.
    return unrepeated_loops(heights, k) > edges_coming_round(heights, k)


def quarter_comes_round(heights, k):
    """Whether some number by 4 comes round in k moves."""
    # Where all slopes on the way are 1 or -1, a gap comes back as it was or turned round:
    # then its middle comes round as soon as the gap does, and all else of it with its first quarter.
    for p in range(4 * gaps_of(heights) + 1):
        if coming_round(heights, p, 4) == [0, k]:
            return True
    return False


def unrepeated_loops(heights, k):
    """How many loops of k steps are not a shorter loop gone along several times."""
    count = loops_of(heights, k)
    for shorter in range(1, k):
        if k % shorter == 0:
            count = count - unrepeated_loops(heights, shorter)
    return count


def edges_coming_round(heights, k):
    """How many edges come round in k moves."""
    count = 0
    for i in range(gaps_of(heights)):
        for edge in ((i, i + 1), (i + 1, i)):
            if edge_comes_round(heights, edge, k):
                count = count + 1
    return count


def edge_comes_round(heights, edge, k):
    """Whether the edge is what it was after k moves, and after no fewer but 0."""
    at = moved_edge(heights, edge)
    moves = 1
    while moves < k and at != edge:
        at = moved_edge(heights, at)
        moves = moves + 1
    return moves == k and at == edge


def moved_edge(heights, edge):
    """To which edge the map moves this one: a dot and the neighbour towards which the edge lies."""
    # An edge is what lies as near to the dot as one likes. A level line moves it to the dot alone,
    # written as the dot twice; that is no edge, and none ever comes of it again.
    dot = heights[edge[0]]
    towards = heights[edge[1]]
    if towards > dot:
        return (dot, dot + 1)
    if towards < dot:
        return (dot, dot - 1)
    return (dot, dot)


def rank(number):
    """Where the number stands in the order: the lesser rank is before."""
    # Powers of 2 stand behind all others, and among themselves the other way round.
    odd = number
    twos = 0
    while odd % 2 == 0:
        odd = odd // 2
        twos = twos + 1
    if odd == 1:
        return (1, -twos, odd)
    return (0, twos, odd)
