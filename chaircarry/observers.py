"""What carrying tells about a start that nobody saw."""

from chaircarry.carrying import few_rounds
from chaircarry.checks import check_house, check_number
from chaircarry.effects import allowed_range, effect_of, MAX_STEP_NUMBER
from chaircarry.errors import Contradiction, InvalidNumber
from chaircarry.plans import TURN


class StartObserver:
    """Knows a plan, which is done again and again, and the number of chairs, but not the start."""

    def __init__(self, plan, chairs):
        check_house(plan, chairs)
        if len(plan.steps) == 0:
            raise InvalidNumber("a plan without steps shows nothing")
        self.repeated_steps = plan.steps
        self.all_chairs = chairs
        self.least_start = 0
        self.greatest_start = chairs
        self.accepted = []

    def see(self, number, count):
        """Record how many chairs are carried in the step with a number, and return how many starts remain possible."""
        check_number(number, 1, MAX_STEP_NUMBER)
        check_number(count, 0, self.all_chairs)
        low, high = starts_that_carry(self.repeated_steps, self.all_chairs, number, count)
        least, greatest = max(self.least_start, low), min(self.greatest_start, high)
        if least > greatest:
            raise Contradiction("no start explains this and all that was seen before")
        self.least_start, self.greatest_start = least, greatest
        self.accepted.append((number, count))
        return greatest - least + 1

    @property
    def possible_starts(self):
        """The least and the greatest possible start."""
        return self.least_start, self.greatest_start

    @property
    def records(self):
        """The list of all accepted observations."""
        return list(self.accepted)


def starts_that_carry(steps, chairs, number, count):
    """Return the least and the greatest start for which a step carries so many chairs; (1, 0) if there is none."""
    rounds, skipped = divmod(number - 1, len(steps))
    low, high, extra, goal, turned = effect_of(steps * few_rounds(rounds) + steps[:skipped], chairs)
    if goal is not None:
        low = high = goal
    # So many chairs are, from low to high, before the step in the room that was red at first.
    least, most = numbers_that_carry(steps[skipped], chairs, turned, count)
    if max(least, low) > min(most, high):
        return 1, 0
    # All starts up to low lead to low, and all from high on lead to high.
    least_start = least if least > low else 0
    greatest_start = most if most < high else chairs
    return least_start, greatest_start


def numbers_that_carry(step, chairs, turned, count):
    """Return from and up to which number of chairs, in the room that was red at first, a step carries so many.

    If there is no such number, these are (1, 0), or numbers that no room can have.
    """
    if step == TURN:
        return (0, chairs) if count == 0 else (1, 0)
    least, most = allowed_range(step, chairs, turned)
    if count == 0:
        return least, most
    # A meeting bounds the number on one side only, and `count` chairs beyond it are missing.
    number = least - count if least > 0 else most + count
    return number, number
