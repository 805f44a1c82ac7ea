"""Which starts explain what is seen in a house."""

from chaircarry.effects import allowed_range, effect_of
from chaircarry.plans import TURN


def starts_that_carry(steps, chairs, step, count):
    """Return the least and the greatest start for which a step behind others carries so many chairs.

    They are (1, 0) if there is none.
    """
    effect = effect_of(steps, chairs)
    least, most = numbers_that_carry(step, chairs, effect[4], count)
    return starts_that_lead(effect, chairs, least, most)


def starts_that_leave(steps, chairs, room, count):
    """Return the least and the greatest start for which steps leave so many chairs in a room, or (1, 0)."""
    effect = effect_of(steps, chairs)
    number = count if (room == "red") != effect[4] else chairs - count
    return starts_that_lead(effect, chairs, number, number)


def starts_that_lead(effect, chairs, least, most):
    """Return the least and the greatest start that lead to a number from `least` to `most`, or (1, 0).

    The number is that of the chairs in the room that was red at first.
    """
    low, high, extra, goal, turned = effect
    if goal is not None:
        low = high = goal
    if max(least, low) > min(most, high):
        return 1, 0
    # All starts up to low lead to low, and all from high on lead to high.
    least_start = least if least > low else 0
    greatest_start = most if most < high else chairs
    return least_start, greatest_start


def numbers_that_carry(step, chairs, turned, count):
    """Return from and up to which number of chairs, in the room that was red at first, a step carries so many.

    If there is no such number, these are (1, 0), or numbers that no room can have.
    """
    if step == TURN:
        return (0, chairs) if count == 0 else (1, 0)
    least, most = allowed_range(step, chairs, turned)
    if count == 0:
        return least, most
    # A meeting bounds the number on one side only, and `count` chairs beyond it are missing.
    number = least - count if least > 0 else most + count
    return number, number
