"""The answers to one line of calls, which is about one map."""

BEGIN = 0
MAP = 1
GO = 2
RUN = 3

# How many whole numbers stand behind a call's number, by that number: begin, map, go, run, round.
WHOLE_NUMBERS = (0, 1, 2, 3, 2)

DONE = 0
REFUSED = -1
NO_MAP = -4

FEWEST_DOTS = 2
MOST_DOTS = 8
GREATEST_Q = 1000000


def answers(calls):
    """For each call in order, how many numbers are answered, and these."""
    # A map has two heights or more, so no heights can stand for no map.
    heights = []
    told = []
    place = 0
    while place < len(calls):
        end = end_of_call(calls, place)
        call = calls[place:end]
        answer = answer_to(heights, call)
        told.append(len(answer))
        told.extend(answer)
        heights = heights_after(heights, call)
        place = end
    return told


def end_of_call(calls, place):
    """The place behind the call that begins at this place."""
    end = place + 1 + WHOLE_NUMBERS[calls[place]]
    if calls[place] == MAP:
        end = end + 1 + calls[end]
    return end


def heights_after(heights, call):
    """The heights of the map that there is once the call is answered."""
    if call[0] == BEGIN:
        return []
    if call[0] == MAP and is_map(call[1], call[3:]):
        return call[3:]
    return heights


def answer_to(heights, call):
    """The numbers that the call answers while the map has these heights."""
    if call[0] == BEGIN:
        return [DONE]
    if call[0] == MAP:
        return [DONE if is_map(call[1], call[3:]) else REFUSED]
    if len(heights) == 0:
        return [NO_MAP]
    return answer_about_fraction(heights, call)


def answer_about_fraction(heights, call):
    """What go, run or round answers once there is a map."""
    p = call[1]
    q = call[2]
    if not is_fraction(heights, p, q):
        return [REFUSED]
    if call[0] == GO:
        return [moved(heights, p, q)]
    if call[0] == RUN:
        return [moved_often(heights, p, q, call[3])]
    # Only round is left.
    return [DONE] + coming_round(heights, p, q)


def is_map(n, heights):
    """Whether n is one that a map can have and every height is below it."""
    # An int below 0 is handed in as 2147483648 or more, so it is refused here as too great.
    if n < FEWEST_DOTS or n > MOST_DOTS:
        return False
    return max(heights) < n


def is_fraction(heights, p, q):
    """Whether p by q is a fraction that the map moves."""
    if q < 1 or q > GREATEST_Q:
        return False
    return p <= (len(heights) - 1) * q


def moved(heights, p, q):
    """To how many by q the map moves p by q."""
    i = p // q
    r = p % q
    if r == 0:
        # Behind the last place there is no dot to draw a line to.
        return heights[i] * q
    return heights[i] * q + r * (heights[i + 1] - heights[i])


def moved_often(heights, p, q, k):
    """To how many by q the map moves p by q in k moves."""
    # k may be far too great to make every move, so whole periods are left out.
    found = coming_round(heights, p, q)
    before = found[0]
    period = found[1]
    left = k
    if k > before:
        left = before + (k - before) % period
    for move in range(left):
        p = moved(heights, p, q)
    return p


def coming_round(heights, p, q):
    """After how many moves p by q is first at a fraction that comes round, and that one's period."""
    # All that p by q moves to is by q too, and so is one of finitely many:
    # the first that is met again is the first that comes round.
    moves_until = {}
    while p not in moves_until:
        moves_until[p] = len(moves_until)
        p = moved(heights, p, q)
    before = moves_until[p]
    return [before, len(moves_until) - before]
