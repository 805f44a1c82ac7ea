"""A slow, separate account of live houses, which does everything anew for each question."""

from chaircarry.plans import Plan
from tests.simulation import Rooms, random_plan

MOST = 10 ** 18


class Twin:
    """What a house must tell: the operations in effect and those that were reverted, in plain lists."""

    def __init__(self, chairs, red):
        self.chairs = chairs
        self.start = red
        self.done = []
        self.undone = []

    def kept(self):
        return list(self.done), list(self.undone)

    def bring_back(self, kept):
        self.done, self.undone = list(kept[0]), list(kept[1])

    def expected_error(self, operation):
        """Return the name of the error that an operation of the right form raises, and its index, or None."""
        if operation[0] == "meet":
            room, need = operation[1:]
            if room not in ["red", "blue"] or isinstance(need, bool) or need not in range(MOST + 1):
                return "InvalidBooking", None
            return ("NotEnough", None) if need > self.chairs else None
        if operation[0] == "run":
            needing = [at for at, step in enumerate(operation[1]) if step[0] != "turn" and step[1] > self.chairs]
            if needing:
                return "TooFewChairs", needing[0]
            wrong = isinstance(operation[2], bool) or operation[2] not in range(MOST + 1)
            return ("InvalidNumber", None) if wrong else None
        return None

    def do(self, operation):
        """Put an operation into effect, and return its result."""
        self.undone = []
        self.done.append(operation)
        return self.results()[-1]

    def undo(self):
        if self.done:
            self.undone.append(self.done.pop())
            return True
        return False

    def redo(self):
        if self.undone:
            self.done.append(self.undone.pop())
            return True
        return False

    def walk(self):
        """Yield the rooms and the result, at first and after each operation in effect."""
        rooms = Rooms(self.chairs, self.start)
        yield rooms, None
        for operation in self.done:
            if operation[0] == "run":
                yield rooms, sum([rooms.do(step) for each in range(operation[2]) for step in operation[1]])
            elif operation[0] == "meet":
                yield rooms, rooms.do(operation[1:])
            else:
                rooms.do(operation)
                yield rooms, None

    def results(self):
        return [result for rooms, result in self.walk()][1:]

    def told(self):
        """Return what `told_by` returns for a house that is as it must be."""
        counts = []
        for rooms, result in self.walk():
            counts.append(rooms.red)
        moved = sum(result for result in self.results() if result is not None)
        red = counts[-1]
        return red, self.chairs - red, moved, rooms.place["red"] == 1, list(self.done), counts


def told_by(house):
    """Return all that a house tells."""
    return house.red, house.blue, house.total_moved, house.is_turned, house.history, list(house.red_counts())


def perform(house, operation):
    """Call the method for an operation of the right form."""
    if operation[0] == "meet":
        return house.meet(operation[1], operation[2])
    if operation[0] == "run":
        return house.run(Plan(*operation[1]), operation[2])
    return house.turn()


def random_operation(source, chairs, wrong=4):
    """Return an operation of the right form, one of `wrong` of them with needs or numbers that may be wrong."""
    kind = source.randrange(4)
    is_wrong = source.randrange(wrong) == 0
    if kind == 0:
        return ("turn",)
    if kind == 1:
        steps = random_plan(source, chairs + 1 if is_wrong else chairs, 5).steps
        rounds = source.choice([0, 1, 2, 3, source.randint(0, 9)])
        return ("run", steps, source.choice([-1, MOST + 1, True, rounds]) if is_wrong else rounds)
    need = source.randint(0, chairs)
    if is_wrong:
        need = source.choice([need, -1, chairs + 1, chairs + 2, MOST, MOST + 1, True, False])
        return ("meet", source.choice(["red", "blue", "green", "Red", ""]), need)
    return ("meet", source.choice(["red", "blue"]), need)


def all_redone(house):
    """Return what a house tells after each further redo, and bring it back to where it was."""
    found = []
    while house.redo():
        found.append(told_by(house))
    for each in found:
        house.undo()
    return found
