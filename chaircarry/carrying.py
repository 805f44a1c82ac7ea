"""How the steps of a plan move chairs between the rooms.

The numbers called `red` here are those of the room that has the red sign at
that moment: after any number of turns a round can begin with them anew.
"""

from chaircarry.plans import TURN


def after_step(step, chairs, red):
    """Return how many chairs the red room has after a step, and how many the step carries."""
    if step == TURN:
        return chairs - red, 0
    room, need = step
    if room == "red":
        missing = max(0, need - red)
        return red + missing, missing
    missing = max(0, need - (chairs - red))
    return red - missing, missing


def after_steps(steps, chairs, red):
    """Return how many chairs the red room has after steps, and how many they carry in all."""
    total = 0
    for step in steps:
        red, carried = after_step(step, chairs, red)
        total += carried
    return red, total


def after_rounds(plan, chairs, red, rounds):
    """Return how many chairs the red room has after rounds of a plan, and how many they carry in all."""
    few = few_rounds(rounds)
    red, total = after_steps(plan.steps * few, chairs, red)
    if few < rounds:
        red, carried = after_steps(plan.steps * 2, chairs, red)
        total += (rounds - few) // 2 * carried
    return red, total


def few_rounds(rounds):
    """Return a number of rounds up to 3 that leave the chairs where so many rounds leave them."""
    # Two rounds together turn an even number of times. So they bring the number
    # of chairs in a room into a range, or to one number, and doing them again
    # leaves it there: all later pairs of rounds are alike and end as they begin.
    return rounds if rounds < 2 else 2 + rounds % 2


def first_rooms(steps):
    """Return the room of each meeting by the signs as they hang at first, and None for each turn."""
    rooms = []
    turned = False
    for step in steps:
        if step == TURN:
            turned = not turned
            rooms.append(None)
        else:
            is_red = (step[0] == "red") != turned
            rooms.append("red" if is_red else "blue")
    return rooms
