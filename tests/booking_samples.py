"""Bookings with what they must tell, made from plain lists."""

from chaircarry.bookings import Alternation, Meeting, Series, Turning

MOST = 10 ** 18


class Sample:
    """How a booking is made, and the kind, the steps and the line that it must have."""

    def __init__(self, make, kind, steps, line):
        self.make = make
        self.kind = kind
        self.steps = steps
        self.line = line


def meeting(room, need):
    return Sample(lambda: Meeting(room, need), "meeting", [(room, need)], "%s %d" % (room, need))


def series(room, need, times, more):
    steps = []
    while len(steps) < times:
        steps.append((room, need if not steps else steps[-1][1] + more))
    line = "%s %d times %d" % (room, need, times) + (" more %d" % more if more != 0 else "")
    if more == 0:
        return Sample(lambda: Series(room, need, times=times), "series", steps, line)
    return Sample(lambda: Series(room, need, times=times, more=more), "series", steps, line)


def alternation(*needs):
    steps = list(zip(["red", "blue"] * 30, needs))
    return Sample(lambda: Alternation(*needs), "alternation", steps, " ".join(["alternate"] + [repr(n) for n in needs]))


def turning():
    return Sample(lambda: Turning(), "turning", [("turn",)], "turn")


def random_need(source):
    return source.choice([source.randint(0, 12), source.randint(0, 12), source.randint(0, MOST), 0, MOST])


def random_series(source):
    """Return a sample whose needs are all allowed, often just so."""
    first, last = random_need(source), random_need(source)
    times = source.choice([1, 2, 3, source.randint(1, 60), 60])
    if times == 1:
        more = source.choice([0, 1, -1, 7, -7, MOST, -MOST, MOST * 5, -MOST * 5])
    else:
        more = (last - first) // (times - 1)
        if more < 0 and first + more * (times - 1) < 0:
            more += 1
    return series(source.choice(["red", "blue"]), first, times, more)


def random_sample(source):
    kind = source.randrange(4)
    if kind == 0:
        return meeting(source.choice(["red", "blue"]), random_need(source))
    if kind == 1:
        return random_series(source)
    if kind == 2:
        many = source.choice([1, 2, 3, source.randint(1, 60), 60])
        return alternation(*[random_need(source) for number in range(many)])
    return turning()


def random_samples(source, most=6):
    return [random_sample(source) for number in range(source.randint(0, most))]
