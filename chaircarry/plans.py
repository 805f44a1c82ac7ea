"""Plans of meetings."""

from chaircarry.checks import is_number
from chaircarry.errors import InvalidPlan

TURN = ("turn",)


def is_step(step):
    """Tell whether a value is a meeting with a need that is allowed, or a turn."""
    if not isinstance(step, tuple):
        return False
    if len(step) == 2:
        return step[0] in ("red", "blue") and is_number(step[1], 0, Plan.MAX_CHAIRS)
    return step == TURN


class Plan:
    """Steps that are done one after another: meetings in two rooms, and turns of the signs."""

    MAX_STEPS = 60
    MAX_CHAIRS = 1_000_000_000_000_000_000

    def __init__(self, *steps):
        for index, step in enumerate(steps):
            if index == Plan.MAX_STEPS or not is_step(step):
                raise InvalidPlan(index=index)
        self.step_tuple = steps

    @classmethod
    def alternating(cls, *needs):
        """Return the plan of meetings in the red and the blue room in turn, the first one in the red room."""
        steps = []
        for at, need in enumerate(needs):
            steps.append(("red" if at % 2 == 0 else "blue", need))
        return cls(*steps)

    @property
    def steps(self):
        """The tuple of the steps."""
        return self.step_tuple

    @property
    def is_turning(self):
        """Whether the number of turns is odd."""
        return self.step_tuple.count(TURN) % 2 == 1

    def joined(self, *others):
        """Return the plan of the steps of this plan and of others, one plan after another."""
        steps = list(self.steps)
        for other in others:
            steps.extend(other.steps)
        return Plan(*steps)
