"""Houses in which one operation after another is performed, reverted, or tried."""

from chaircarry.bookings import check_meeting
from chaircarry.carrying import after_rounds, after_step
from chaircarry.checks import check_house, check_number
from chaircarry.effects import MAX_ROUNDS
from chaircarry.errors import ChairError, InvalidOperation, InvalidPlan, NotEnough
from chaircarry.plans import Plan, TURN


class Moment:
    """What a house is like after an operation, or at first; it is never changed."""

    def __init__(self, operation, red_now, moved, turned, earlier):
        self.operation = operation
        self.red_now = red_now
        self.moved = moved
        self.turned = turned
        self.earlier = earlier


class House:
    """A house with chairs in two rooms, and the operations that have been performed in it."""

    def __init__(self, chairs, *, red=0):
        check_number(chairs, 0, Plan.MAX_CHAIRS)
        check_number(red, 0, chairs)
        self.all_chairs = chairs
        # These two, and nothing else, tell all that can change. Their values are
        # never changed themselves, so whoever keeps them can bring everything back.
        self.present = Moment(None, red, 0, False, None)
        self.reverted = None

    @property
    def red(self):
        """How many chairs are in the room with the red sign."""
        return self.present.red_now

    @property
    def blue(self):
        """How many chairs are in the room with the blue sign."""
        return self.all_chairs - self.present.red_now

    @property
    def total_moved(self):
        """How many chairs have been carried by all operations in effect."""
        return self.present.moved

    @property
    def is_turned(self):
        """Whether the room that was red at first is blue now."""
        return self.present.turned

    @property
    def history(self):
        """The list of the operations in effect, in order."""
        return [moment.operation for moment in self.moments()[1:]]

    def red_counts(self):
        """Yield the number of chairs in the red room at first, and after each operation in effect."""
        for moment in self.moments():
            yield moment.red_now

    def moments(self):
        """Return the list of the first moment and of those after each operation in effect."""
        found = []
        moment = self.present
        while moment is not None:
            found.append(moment)
            moment = moment.earlier
        return found[::-1]

    def meet(self, room, need):
        """Hold a meeting, and return how many chairs are carried."""
        check_meeting(room, need)
        if need > self.all_chairs:
            raise NotEnough("a meeting needs more chairs than the house has")
        red, carried = after_step((room, need), self.all_chairs, self.red)
        self.accept(("meet", room, need), red, carried, False)
        return carried

    def turn(self):
        """Exchange the signs."""
        self.accept(TURN, self.blue, 0, True)

    def run(self, plan, rounds):
        """Do a plan for a number of rounds, and return how many chairs are carried."""
        check_house(plan, self.all_chairs)
        check_number(rounds, 0, MAX_ROUNDS)
        red, carried = after_rounds(plan, self.all_chairs, self.red, rounds)
        self.accept(("run", plan.steps, rounds), red, carried, plan.is_turning and rounds % 2 == 1)
        return carried

    def accept(self, operation, red, carried, turns):
        """Put an operation into effect that has been performed for the first time."""
        before = self.present
        self.present = Moment(operation, red, before.moved + carried, before.turned != turns, before)
        self.reverted = None

    def undo(self):
        """Revert the last operation in effect, and tell whether there was one."""
        if self.present.earlier is None:
            return False
        self.reverted = (self.present, self.reverted)
        self.present = self.present.earlier
        return True

    def redo(self):
        """Put the operation that was reverted last into effect again, and tell whether there was one."""
        if self.reverted is None:
            return False
        self.present, self.reverted = self.reverted
        return True

    def apply(self, *operations):
        """Perform all of these operations or none, and return the list of their results."""
        check_operations(operations)
        present, reverted = self.present, self.reverted
        try:
            return [self.perform(operation) for operation in operations]
        except ChairError:
            self.present, self.reverted = present, reverted
            raise

    def perform(self, operation):
        """Perform an operation of the right form, and return its result."""
        name, *rest = operation
        if name == "meet":
            return self.meet(*rest)
        if name == "run":
            steps, rounds = rest
            return self.run(Plan(*steps), rounds)
        return self.turn()

    @classmethod
    def replay(cls, chairs, red, *operations):
        """Return a house after operations."""
        house = cls(chairs, red=red)
        house.apply(*operations)
        return house


def check_operations(operations):
    """Raise InvalidOperation unless all operations have the right form."""
    for index, operation in enumerate(operations):
        if not is_operation(operation):
            raise InvalidOperation(index=index)


def is_operation(operation):
    """Tell whether a value has the form of an operation in a history."""
    if not isinstance(operation, tuple):
        return False
    if len(operation) == 3 and operation[0] == "run":
        return are_steps(operation[1])
    return operation == TURN or len(operation) == 3 and operation[0] == "meet"


def are_steps(steps):
    """Tell whether a value is a tuple of steps of a plan."""
    if not isinstance(steps, tuple):
        return False
    try:
        Plan(*steps)
    except InvalidPlan:
        return False
    return True


class Beginning:
    """What a house was like at the beginning of a block, and the beginning that was kept before."""

    def __init__(self, house, outer):
        self.present_then = house.present
        self.reverted_then = house.reverted
        self.outer = outer


class Trial:
    """A context manager: at the end of its block, a house is as it was at the beginning of the block."""

    def __init__(self, house):
        self.house = house
        self.beginning = None

    def __enter__(self):
        # A block with the same trial may stand inside another one, and keeps a beginning of its own.
        self.beginning = Beginning(self.house, self.beginning)
        return self.house

    def __exit__(self, kind, value, trace):
        self.house.present = self.beginning.present_then
        self.house.reverted = self.beginning.reverted_then
        self.beginning = self.beginning.outer
