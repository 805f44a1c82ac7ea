"""What a plan does: what it carries in many rounds, and its effect on all starts."""

from chaircarry.carrying import after_rounds, after_step, after_steps
from chaircarry.checks import check_house, check_number, check_start
from chaircarry.errors import InvalidNumber
from chaircarry.plans import TURN

MAX_ROUNDS = 10 ** 18
MAX_STEP_NUMBER = 10 ** 18
MAX_CARRYINGS = 10000


def total_carried(plan, chairs, start, rounds):
    """Return how many chairs are carried in a number of rounds."""
    return checked_rounds(plan, chairs, start, rounds)[1]


def red_chairs(plan, chairs, start, rounds):
    """Return how many chairs are in the red room after a number of rounds."""
    return checked_rounds(plan, chairs, start, rounds)[0]


def checked_rounds(plan, chairs, start, rounds):
    """Return what `after_rounds` returns, if the numbers are allowed."""
    check_start(plan, chairs, start)
    check_number(rounds, 0, MAX_ROUNDS)
    return after_rounds(plan, chairs, start, rounds)


def carryings(plan, chairs, start, first, last):
    """Yield how many chairs are carried in each step from a first to a last one, numbered from 1."""
    check_start(plan, chairs, start)
    check_span(plan, first, last)
    many = len(plan.steps)
    rounds, skipped = divmod(first - 1, many)
    red = after_rounds(plan, chairs, start, rounds)[0]
    red = after_steps(plan.steps[:skipped], chairs, red)[0]
    for at in range(first - 1, last):
        red, carried = after_step(plan.steps[at % many], chairs, red)
        yield carried


def check_span(plan, first, last):
    """Raise InvalidNumber unless the steps from a first to a last one exist and are not too many."""
    check_number(first, 1, MAX_STEP_NUMBER)
    check_number(last, first, MAX_STEP_NUMBER)
    if last - first >= MAX_CARRYINGS:
        raise InvalidNumber("too many steps are asked for")
    if len(plan.steps) == 0:
        raise InvalidNumber("a plan without steps has no first step")


def summary(plan, chairs):
    """Return the tuple (low, high, extra, goal, turned) that tells what a plan does to all starts."""
    check_house(plan, chairs)
    return effect_of(plan.steps, chairs)


def effect_of(steps, chairs):
    """Return what `summary` returns, for any number of steps."""
    low, high, extra, goal, turned = 0, chairs, 0, None, False
    for step in steps:
        if step == TURN:
            turned = not turned
            continue
        least, most = allowed_range(step, chairs, turned)
        if goal is None:
            low, high, extra, goal = narrowed(low, high, least, most)
        else:
            moved = nearest(goal, least, most)
            extra += abs(moved - goal)
            goal = moved
    if low == high and goal is None:
        goal = low
    return low, high, extra, goal, turned


def allowed_range(step, chairs, turned):
    """Return how many chairs the room that was red at first may have, at least and at most, at a meeting."""
    room, need = step
    if (room == "red") == turned:
        return 0, chairs - need
    return need, chairs


def narrowed(low, high, least, most):
    """Return low, high, extra and goal when a meeting follows on steps that only keep to a range.

    Where the two ranges do not meet, every start is brought first to the end
    of the old range that is nearer to the new one, and then to the new range.
    """
    if least > high:
        return high, high, least - high, least
    if most < low:
        return low, low, low - most, most
    return max(low, least), min(high, most), 0, None


def nearest(number, least, most):
    """Return the number from `least` to `most` that is nearest to a number."""
    return min(max(number, least), most)


def first_difference(plan, other, chairs):
    """Return the smallest start for which two plans carry or end differently, or None."""
    check_house(plan, chairs)
    check_house(other, chairs)
    for start in telling_starts(plan, other, chairs):
        if after_steps(plan.steps, chairs, start) != after_steps(other.steps, chairs, start):
            return start
    return None


def telling_starts(plan, other, chairs):
    """Return starts, ascending, the first of which to show a difference is the smallest one to show it."""
    # From each of these bounds up to the next one, what a plan carries and where
    # it ends grows or falls evenly with the start. So does the difference of two
    # plans: if it is 0 at a bound, it is 0 up to the next one unless it is not
    # 0 just behind the bound.
    bounds = [0]
    for each in (plan, other):
        low, high = summary(each, chairs)[:2]
        bounds.extend([low, high])
    return sorted({start for bound in bounds for start in (bound, bound + 1) if start <= chairs})
