"""What carrying tells about a start that nobody saw."""

from chaircarry.carrying import few_rounds
from chaircarry.checks import check_house, check_number
from chaircarry.effects import MAX_STEP_NUMBER
from chaircarry.errors import Contradiction, InvalidNumber
from chaircarry.starts import starts_that_carry


class StartObserver:
    """Knows a plan, which is done again and again, and the number of chairs, but not the start."""

    def __init__(self, plan, chairs):
        check_house(plan, chairs)
        if len(plan.steps) == 0:
            raise InvalidNumber("a plan without steps shows nothing")
        self.repeated_steps = plan.steps
        self.all_chairs = chairs
        self.least_start = 0
        self.greatest_start = chairs
        self.accepted = []

    def see(self, number, count):
        """Record how many chairs are carried in the step with a number, and return how many starts remain possible."""
        check_number(number, 1, MAX_STEP_NUMBER)
        check_number(count, 0, self.all_chairs)
        rounds, skipped = divmod(number - 1, len(self.repeated_steps))
        steps = self.repeated_steps * few_rounds(rounds) + self.repeated_steps[:skipped]
        low, high = starts_that_carry(steps, self.all_chairs, self.repeated_steps[skipped], count)
        least, greatest = max(self.least_start, low), min(self.greatest_start, high)
        if least > greatest:
            raise Contradiction("no start explains this and all that was seen before")
        self.least_start, self.greatest_start = least, greatest
        self.accepted.append((number, count))
        return greatest - least + 1

    @property
    def possible_starts(self):
        """The least and the greatest possible start."""
        return self.least_start, self.greatest_start

    @property
    def records(self):
        """The list of all accepted observations."""
        return list(self.accepted)
