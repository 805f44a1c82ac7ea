"""Codes of plans: lists of integers from 0 to 255."""

from chaircarry.checks import is_number
from chaircarry.errors import DecodeError
from chaircarry.plans import Plan

FIRST_NUMBER = 99
MAX_NUMBER = 255
# The place of a word here is the number that stands for it.
STEP_WORDS = ("red", "blue", "turn")
GROUP_SIZE = 128


def encode_plan(plan):
    """Return the code of a plan."""
    code = [FIRST_NUMBER, len(plan.steps)]
    for step in plan.steps:
        code.append(STEP_WORDS.index(step[0]))
        if len(step) == 2:
            code.extend(groups_of(step[1]))
    code.append(checksum_of(code))
    return code


def groups_of(need):
    """Return a need in groups of seven bits, the lowest one first."""
    groups = []
    while need >= GROUP_SIZE:
        groups.append(GROUP_SIZE + need % GROUP_SIZE)
        need //= GROUP_SIZE
    groups.append(need)
    return groups


def checksum_of(numbers):
    """Return the checksum that stands behind these numbers."""
    checksum = 11
    for number in numbers:
        checksum = (7 * checksum + number) % 251
    return checksum


def decode_plan(code):
    """Return the plan of a code."""
    reader = CodeReader(code)
    reader.take(FIRST_NUMBER, FIRST_NUMBER)
    many = reader.take(0, Plan.MAX_STEPS)
    steps = []
    for at in range(many):
        steps.append(reader.take_step())
    checksum = checksum_of(code[:reader.offset])
    reader.take(checksum, checksum)
    if reader.offset < len(code):
        raise DecodeError(offset=reader.offset)
    return Plan(*steps)


class CodeReader:
    """Takes the numbers of a code from left to right; `offset` is that of the next one."""

    def __init__(self, code):
        self.code = code
        self.offset = 0

    def take(self, least, most):
        """Return the next number, which must be from `least` to `most`."""
        if self.offset == len(self.code) or not is_number(self.code[self.offset], least, most):
            raise DecodeError(offset=self.offset)
        self.offset += 1
        return self.code[self.offset - 1]

    def take_step(self):
        """Return the step that comes next."""
        word = STEP_WORDS[self.take(0, len(STEP_WORDS) - 1)]
        return (word,) if word == "turn" else (word, self.take_need())

    def take_need(self):
        """Return the need that comes next."""
        first = self.offset
        group = self.take(0, MAX_NUMBER)
        need, factor = group % GROUP_SIZE, GROUP_SIZE
        while group >= GROUP_SIZE:
            # Behind other groups, only a last one can be 0: it would add nothing.
            group = self.take(1, MAX_NUMBER)
            need += group % GROUP_SIZE * factor
            factor *= GROUP_SIZE
        # Only a need that has been read whole, without a wrong number in it, is compared.
        if need > Plan.MAX_CHAIRS:
            raise DecodeError(offset=first)
        return need
