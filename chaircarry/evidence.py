"""Evidence that nobody could carry less."""

from chaircarry.carrying import after_step, first_rooms
from chaircarry.checks import check_start, is_number
from chaircarry.errors import InvalidEvidence


def find_evidence(plan, chairs, start):
    """Return the indexes of meetings that show that one round cannot be done with less carrying."""
    check_start(plan, chairs, start)
    rooms = first_rooms(plan.steps)
    found = []
    red = start
    for index, step in enumerate(plan.steps):
        red, carried = after_step(step, chairs, red)
        if carried == 0:
            continue
        # Of all meetings in a row that get chairs carried into one room, the
        # last one needs the most: it alone shows what they cost together.
        if len(found) > 0 and rooms[found[-1]] == rooms[index]:
            found.pop()
        found.append(index)
    return found


def judge_evidence(plan, chairs, start, indexes):
    """Return how many chairs must have been carried at least, as the meetings with these indexes show."""
    check_start(plan, chairs, start)
    rooms = first_rooms(plan.steps)
    check_evidence(rooms, indexes)
    total = there = 0
    for at, index in enumerate(indexes):
        if at == 0:
            there = start if rooms[index] == "red" else chairs - start
        need = plan.steps[index][1]
        total += need - there
        # The next meeting is in the other room: no more chairs are there now.
        there = chairs - need
    return max(0, total)


def check_evidence(rooms, indexes):
    """Raise InvalidEvidence unless indexes are those of meetings, ascending, in the one and the other room in turn."""
    before = -1
    for at, index in enumerate(indexes):
        if not is_number(index, before + 1, len(rooms) - 1) or rooms[index] is None:
            raise InvalidEvidence(index=at)
        if at > 0 and rooms[index] == rooms[before]:
            raise InvalidEvidence(index=at)
        before = index
