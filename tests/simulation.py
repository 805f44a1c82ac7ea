"""A slow, separate account of the document's rules, which the tests compare the program with."""

import itertools
import random
from fractions import Fraction

from chaircarry.plans import Plan


class Rooms:
    """Two rooms, told apart by their places 0 and 1; the sign "red" hangs at place 0 first."""

    def __init__(self, chairs, start):
        self.held = [start, chairs - start]
        self.place = {"red": 0, "blue": 1}

    def do(self, step):
        """Do a step, and return how many chairs are carried."""
        if step[0] == "turn":
            self.place = {"red": self.place["blue"], "blue": self.place["red"]}
            return 0
        room, need = step
        here = self.place[room]
        carried = 0
        if self.held[here] < need:
            carried = need - self.held[here]
            self.held[here] += carried
            self.held[1 - here] -= carried
        return carried

    @property
    def red(self):
        return self.held[self.place["red"]]


def simulate(plan, chairs, start, rounds):
    """Return what each step carries, and how many chairs are in the red room at the end."""
    rooms = Rooms(chairs, start)
    carried = [rooms.do(step) for number in range(rounds) for step in plan.steps]
    return carried, rooms.red


def outcome(plan, chairs, start):
    """Return how many chairs one round carries, and how many the red room has at its end."""
    carried, red = simulate(plan, chairs, start, 1)
    return sum(carried), red


def end_at_first_place(plan, chairs, start):
    """Return how many chairs are, after one round, in the room that was red at first."""
    rooms = Rooms(chairs, start)
    for step in plan.steps:
        rooms.do(step)
    return rooms.held[0]


def places(plan):
    """Return the place of each meeting of one round, and None for each turn."""
    rooms = Rooms(0, 0)
    found = []
    for step in plan.steps:
        if step[0] == "turn":
            rooms.do(step)
        found.append(rooms.place[step[0]] if len(step) == 2 else None)
    return found


def carried_in_the_long_run(plan, chairs, start):
    """Return how many chairs a round carries on average, once the rooms are as they were after an earlier round."""
    rooms = Rooms(chairs, start)
    seen = {}
    totals = [0]
    while (state := (*rooms.held, rooms.place["red"])) not in seen:
        seen[state] = len(totals) - 1
        totals.append(totals[-1] + sum([rooms.do(step) for step in plan.steps]))
    first = seen[state]
    return Fraction(totals[-1] - totals[first], len(totals) - 1 - first)


def random_step(source, chairs):
    kind = source.randrange(5)
    if kind == 0:
        return ("turn",)
    need = source.choice([source.randint(0, chairs), source.randint(0, chairs), source.randint(0, chairs), 0, chairs])
    return (source.choice(["red", "blue"]), need)


def random_plan(source, chairs, most=8, least=0):
    return Plan(*[random_step(source, chairs) for number in range(source.randint(least, most))])


def all_plans(chairs, most):
    """Yield all plans of at most so many steps that a house can use."""
    steps = [("turn",)] + [(room, need) for room in ("red", "blue") for need in range(chairs + 1)]
    for many in range(most + 1):
        for chosen in itertools.product(steps, repeat=many):
            yield Plan(*chosen)


def fixed_source(seed):
    """Return a random source that gives the same numbers in each run."""
    return random.Random(seed)
