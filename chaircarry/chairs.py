"""What more chairs save, how many spare all carrying, and the cheapest number of chairs."""

from chaircarry.carrying import after_rounds, first_rooms
from chaircarry.checks import check_house, check_number

MAX_PRICE = 10 ** 9
MAX_PRICED_ROUNDS = 10 ** 9


def long_run(plan, chairs):
    """Return the fraction of chairs that are carried per round in the long run."""
    check_house(plan, chairs)
    return settled_carrying(plan, chairs), 1


def saving(plan, chairs):
    """Return the fraction by which one chair more makes `long_run` less."""
    check_house(plan, chairs)
    check_number(chairs, 0, plan.MAX_CHAIRS - 1)
    return spared_carrying(plan, chairs), 1


def settled_carrying(plan, chairs):
    """Return how many chairs each round carries in the long run."""
    # From the third round on, all rounds carry equally many, also those of a
    # plan with an odd number of turns: if it brings the red room into a range
    # and turns then, the range either holds half of the chairs, and nothing is
    # carried any more, or the red room begins each round beyond the same end.
    return after_rounds(plan, chairs, 0, 3)[1] - after_rounds(plan, chairs, 0, 2)[1]


def spared_carrying(plan, chairs):
    """Return how many chairs less each round carries in the long run with one chair more."""
    return settled_carrying(plan, chairs) - settled_carrying(plan, chairs + 1)


def fewest_chairs(plan):
    """Return the smallest number of chairs with which a plan can be used."""
    return max([step[1] for step in plan.steps if len(step) == 2], default=0)


def sparing_chairs(plan):
    """Return the smallest number of chairs with which nothing is carried in the long run."""
    # After an odd number of turns, the next round takes place with the rooms exchanged.
    steps = plan.steps * 2
    most = {"red": 0, "blue": 0}
    for room, step in zip(first_rooms(steps), steps):
        if room is not None:
            most[room] = max(most[room], step[1])
    return most["red"] + most["blue"]


def best_chairs(plan, price, carry_price, rounds):
    """Return the smallest number of chairs with the least price of chairs and of carrying."""
    check_number(price, 0, MAX_PRICE)
    check_number(carry_price, 0, MAX_PRICE)
    check_number(rounds, 0, MAX_PRICED_ROUNDS)
    # What each further chair saves never grows: where one does not pay, no later one does.
    low, high = fewest_chairs(plan), sparing_chairs(plan)
    while low < high:
        middle = (low + high) // 2
        if carry_price * rounds * spared_carrying(plan, middle) <= price:
            high = middle
        else:
            low = middle + 1
    return low
