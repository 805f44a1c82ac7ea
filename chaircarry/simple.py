"""Plans with the fewest steps that have the same effect as a plan."""

from chaircarry.effects import summary
from chaircarry.plans import Plan, TURN


def simple_plan(plan, chairs):
    """Return a plan with the fewest possible steps that has the same effect on every start."""
    low, high, extra, goal, turned = summary(plan, chairs)
    if extra == 0:
        steps = steps_into_range(chairs, low, high)
    else:
        steps = steps_through(chairs, turning_points(chairs, low, goal, extra))
    # Where the rooms are chosen freely, turns do nothing but exchange the signs.
    if turned:
        steps.append(TURN)
    return Plan(*steps)


def steps_into_range(chairs, low, high):
    """Return the steps that bring the red room to a range, and do not carry more than that."""
    steps = []
    if low > 0:
        steps.append(("red", low))
    if high < chairs:
        steps.append(("blue", chairs - high))
    return steps


def steps_through(chairs, points):
    """Return the steps that bring the red room to each of these numbers, which rise and fall in turn."""
    steps = []
    # The first meeting is in the room that gives chairs away next, so that the
    # first number is reached from all starts that are on the other side of it.
    is_red = points[0] > points[1]
    for point in points:
        steps.append(("red", point) if is_red else ("blue", chairs - point))
        is_red = not is_red
    return steps


def turning_points(chairs, start, goal, extra):
    """Return the fewest numbers from start to goal, rising and falling in turn, that are `extra` apart in all."""
    points = [start, goal]
    between = 0
    while length_of(points) < extra:
        between += 1
        points = longest_points(chairs, start, goal, between)
    # The first turn, if there is one, is as far away as it can be. If it were
    # at the start, this would be a way with one turn less, and too short: so it
    # can be moved near enough. Each chair nearer spares two, there and back.
    spare = (length_of(points) - extra) // 2
    points[1] += spare if points[1] < points[0] else -spare
    return points


def longest_points(chairs, start, goal, between):
    """Return the longest way from start to goal with so many turns between them."""
    upwards = [start] + alternately(chairs, 0, between) + [goal]
    downwards = [start] + alternately(0, chairs, between) + [goal]
    return upwards if length_of(upwards) >= length_of(downwards) else downwards


def alternately(first, second, many):
    """Return a list of so many numbers, which are the two numbers in turn."""
    return [first if at % 2 == 0 else second for at in range(many)]


def length_of(points):
    """Return how far numbers are apart in all, from each one to the next one."""
    total = 0
    for at in range(1, len(points)):
        total += abs(points[at] - points[at - 1])
    return total
