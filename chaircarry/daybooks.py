"""Daybooks: what happened in a house, with numbers that may be missing."""

from chaircarry.carrying import after_step
from chaircarry.checks import check_number, is_number
from chaircarry.errors import DaybookError
from chaircarry.plans import Plan, TURN
from chaircarry.starts import starts_that_carry, starts_that_leave
from chaircarry.words import integer_in

MAX_ROWS = 201
UNKNOWN = "?"


class Entry:
    """A row behind the first one.

    Its `step` is None if the row only counts chairs, and its `number` is None
    if the row has no number to be judged, or one that is not known.
    """

    def __init__(self, words, step, number):
        self.words = words
        self.step = step
        self.number = number


class Daybook:
    """Tells what happened in a house, whatever the start was."""

    def __init__(self, text):
        lines = text.split("\n")
        self.first_row = lines[0]
        self.all_chairs = chairs_in(self.first_row)
        self.entries = []
        for row, line in enumerate(lines[1:], start=1):
            entry = entry_in(line, self.all_chairs)
            if row == MAX_ROWS or entry is None:
                raise DaybookError(row=row)
            self.entries.append(entry)

    @property
    def row_count(self):
        """The number of all rows."""
        return 1 + len(self.entries)

    def check(self, start):
        """Return the first row with a number that is wrong for a start, or None."""
        for row, right in enumerate(self.right_numbers(start), start=1):
            number = self.entries[row - 1].number
            if number is not None and number != right:
                return row
        return None

    def filled(self, start):
        """Return the text with the right numbers for a start."""
        rows = [self.first_row]
        for entry, right in zip(self.entries, self.right_numbers(start)):
            words = entry.words if right is None else entry.words[:-1] + [str(right)]
            rows.append(" ".join(words))
        return "\n".join(rows)

    def right_numbers(self, start):
        """Return for each entry the number that is right for a start, or None for a turn."""
        check_number(start, 0, self.all_chairs)
        red = start
        numbers = []
        for entry in self.entries:
            if entry.step is None:
                numbers.append(red if entry.words[0] == "red" else self.all_chairs - red)
            else:
                red, carried = after_step(entry.step, self.all_chairs, red)
                numbers.append(None if entry.step == TURN else carried)
        return numbers

    def fitting_starts(self):
        """Return the least and the greatest start for which no row is wrong, or None."""
        least, greatest = 0, self.all_chairs
        steps = []
        for entry in self.entries:
            if entry.number is not None:
                low, high = starts_that_fit(entry, steps, self.all_chairs)
                least, greatest = max(least, low), min(greatest, high)
            if entry.step is not None:
                steps.append(entry.step)
        return (least, greatest) if least <= greatest else None


def chairs_in(line):
    """Return the number of chairs in the first row of a daybook."""
    words = line.split(" ")
    chairs = integer_in(words[-1])
    if len(words) != 2 or words[0] != "chairs" or not is_number(chairs, 0, Plan.MAX_CHAIRS):
        raise DaybookError(row=0)
    return chairs


def entry_in(line, chairs):
    """Return the entry that a row behind the first one stands for, or None if it is not so formed."""
    words = line.split(" ")
    if words == ["turn"]:
        return Entry(words, TURN, None)
    # None stands for a number that is not known, too: it is no integer.
    number = integer_in(words[-1])
    if words[-1] != UNKNOWN and not is_number(number, 0, Plan.MAX_CHAIRS):
        return None
    if words[0] not in ("red", "blue"):
        return None
    if len(words) == 3 and words[1] == "has":
        return Entry(words, None, number)
    if len(words) != 4 or words[2] != "carried":
        return None
    need = integer_in(words[1])
    return Entry(words, (words[0], need), number) if is_number(need, 0, chairs) else None


def starts_that_fit(entry, steps, chairs):
    """Return the least and the greatest start for which an entry behind steps is right, or (1, 0)."""
    if entry.step is None:
        return starts_that_leave(steps, chairs, entry.words[0], entry.number)
    return starts_that_carry(steps, chairs, entry.step, entry.number)
