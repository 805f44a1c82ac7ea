"""Point 15: codes of plans."""

import unittest

from chaircarry import codes
from chaircarry.codes import decode_plan, encode_plan
from chaircarry.errors import DecodeError
from chaircarry.plans import Plan
from tests.simulation import fixed_source

MOST = 10 ** 18
TURN = ("turn",)
NEEDS = [0, 1, 6, 127, 128, 129, 255, 256, 16383, 16384, 2 ** 56 - 1, 2 ** 56, MOST - 1, MOST]


class Refused(Exception):
    """The reader below refuses the number at an offset."""

    def __init__(self, offset):
        self.offset = offset


def checksum(numbers):
    found = 11
    for number in numbers:
        found = (7 * found + number) % 251
    return found


def written(steps):
    """Return the code of steps: a writer of its own, which cuts the binary digits of needs into groups."""
    code = [99, len(steps)]
    for step in steps:
        code.append({"red": 0, "blue": 1, "turn": 2}[step[0]])
        if len(step) == 2:
            digits = format(step[1], "b")
            digits = "0" * (-len(digits) % 7) + digits
            groups = [int(digits[at:at + 7], 2) for at in range(0, len(digits), 7)]
            code += [group + 128 for group in groups[:0:-1]] + [groups[0]]
    return code + [checksum(code)]


def number_at(code, offset):
    if offset >= len(code):
        raise Refused(len(code))
    if isinstance(code[offset], bool) or code[offset] not in range(256):
        raise Refused(offset)
    return code[offset]


def read(code):
    """Return the steps of a code: a reader of its own."""
    if number_at(code, 0) != 99:
        raise Refused(0)
    if number_at(code, 1) > 60:
        raise Refused(1)
    steps, at = [], 2
    while len(steps) < code[1]:
        kind = number_at(code, at)
        if kind > 2:
            raise Refused(at)
        at += 1
        if kind == 2:
            steps.append(TURN)
            continue
        first = at
        while number_at(code, at) >= 128:
            at += 1
        # A last group of 0 is refused where it stands, before the need has been read whole.
        if code[at] == 0 and at > first:
            raise Refused(at)
        at += 1
        digits = "".join(format(group % 128, "07b") for group in code[first:at][::-1])
        if int(digits, 2) > MOST:
            raise Refused(first)
        steps.append((("red", "blue")[kind], int(digits, 2)))
    if number_at(code, at) != checksum(code[:at]):
        raise Refused(at)
    if len(code) > at + 1:
        raise Refused(at + 1)
    return tuple(steps)


def random_steps(source, most=8):
    steps = []
    for number in range(source.randint(0, most)):
        need = source.choice([source.choice(NEEDS), source.choice([0, 127, 128, MOST]), source.randint(0, MOST)])
        steps.append(source.choice([("red", need), ("blue", need), TURN]))
    return steps


class Writing(unittest.TestCase):
    def test_definitions(self):
        self.assertEqual(codes.encode_plan.__module__, "chaircarry.codes")
        self.assertEqual(codes.decode_plan.__module__, "chaircarry.codes")
        self.assertEqual(decode_plan(code=encode_plan(plan=Plan(TURN))).steps, (TURN,))

    def test_random_plans(self):
        source = fixed_source(70)
        for number in range(2000):
            steps = random_steps(source)
            code = encode_plan(Plan(*steps))
            self.assertIsInstance(code, list)
            self.assertEqual(code, written(steps))
            self.assertIsInstance(decode_plan(code), Plan)
            self.assertEqual(decode_plan(code).steps, tuple(steps))

    def test_single_meetings(self):
        for need in [*NEEDS, *range(400)]:
            for kind, room in enumerate(("red", "blue")):
                code = encode_plan(Plan((room, need)))
                self.assertEqual(code, written([(room, need)]))
                self.assertEqual(code[:3], [99, 1, kind])
                self.assertEqual(decode_plan(code).steps, ((room, need),))

    def test_groups(self):
        for need, groups in [
            (0, [0]), (127, [127]), (128, [128, 1]), (129, [129, 1]), (300, [172, 2]), (16383, [255, 127]),
            (16384, [128, 128, 1]), (MOST, [128, 128, 144, 187, 186, 214, 173, 240, 13]),
        ]:
            self.assertEqual(encode_plan(Plan(("red", need)))[3:-1], groups)

    def test_numbers_of_steps(self):
        self.assertEqual(encode_plan(Plan()), [99, 0, checksum([99, 0])])
        self.assertEqual(decode_plan(encode_plan(Plan())).steps, ())
        for many in (1, 59, 60):
            steps = (("blue", MOST), TURN) * 30
            code = encode_plan(Plan(*steps[:many]))
            self.assertEqual(code[1], many)
            self.assertEqual(decode_plan(code).steps, steps[:many])


class Reading(unittest.TestCase):
    def assert_refused(self, offset, code):
        kept = list(code)
        with self.subTest(code=code), self.assertRaises(DecodeError) as caught:
            decode_plan(code)
        self.assertEqual(caught.exception.offset, offset)
        self.assertEqual(code, kept)

    def assert_as_read(self, code):
        try:
            steps = read(code)
        except Refused as error:
            self.assert_refused(error.offset, code)
            return False
        with self.subTest(code=code):
            self.assertEqual(decode_plan(code).steps, steps)
            self.assertEqual(encode_plan(decode_plan(code)), code)
        return True

    def assert_refused_with_checksum(self, offset, code):
        """Assert that it is refused there, whatever stands behind: also with the right checksum."""
        for behind in ([], [checksum(code)], [0, 0], [300], [-1, checksum(code)]):
            self.assert_refused(offset, code + behind)

    def test_changed_codes(self):
        source = fixed_source(71)
        found = {True: 0, False: 0}
        for number in range(12000):
            code = written(random_steps(source))
            for change in range(source.choice([1, 1, 2, 3])):
                self.change(source, code)
            if code and source.randrange(2) == 0:
                code[-1] = checksum(code[:-1])
            found[self.assert_as_read(code)] += 1
        self.assertGreater(min(found.values()), 500)

    def change(self, source, code):
        """Change, leave out or put in a number."""
        at = source.randint(0, len(code))
        number = source.choice([
            source.randint(-2, 260), source.randint(0, 255), source.randint(0, 3), 0, 60, 61, 99, 127, 128, 255, 256, -1,
        ])
        change = source.randrange(4)
        if change <= 1 and at < len(code):
            code[at] = source.choice([number, code[at] + 1, code[at] - 1, code[at] ^ 128])
        elif change == 2 and at < len(code):
            del code[at]
        else:
            code.insert(at, number)

    def test_changed_needs_of_nine_groups(self):
        source = fixed_source(72)
        for number in range(3000):
            code = written([("blue", MOST - source.choice([0, 1, source.randint(0, MOST)])), ("red", 6)])
            at = source.randint(3, 12)
            code[at] = source.choice([source.randint(0, 255), 0, 13, 14, 127, 128, 141, 142, 255])
            if source.randrange(2) == 0:
                code[-1] = checksum(code[:-1])
            self.assert_as_read(code)

    def test_wrong_numbers_at_each_place(self):
        steps = [("red", 6), TURN, ("blue", 300), ("red", 0), ("blue", MOST), TURN]
        code = written(steps)
        for at in range(len(code)):
            for wrong in (-1, 256, -128, 300, 10 ** 30, True, False):
                changed = code[:at] + [wrong] + code[at + 1:]
                self.assert_refused(at, changed)
                self.assert_refused(at, changed[:-1] + [checksum(changed[:-1])] if at < len(code) - 1 else changed)
            self.assert_refused(at, code[:at] + [256])

    def test_missing_numbers(self):
        self.assert_refused(0, [])
        code = written([("red", 6), TURN, ("blue", 300), ("red", 0), ("blue", MOST), TURN])
        for many in range(len(code)):
            self.assert_refused(many, code[:many])
        self.assert_refused(3, [99, 1, 0])
        self.assert_refused(4, [99, 1, 0, 128])
        self.assert_refused(43, [99, 1, 0] + [255] * 40)

    def test_numbers_behind_the_checksum(self):
        for steps in ([], [TURN], [("red", 6), ("blue", MOST)]):
            code = written(steps)
            for behind in (0, 1, 99, code[-1], 255, 256, -1):
                self.assert_refused(len(code), code + [behind])
                self.assert_refused(len(code), code + [behind, 0])
            self.assert_refused(len(code), code + code)

    def test_the_first_number(self):
        for first in (0, 98, 100, 255, 256, -99):
            self.assert_refused_with_checksum(0, [first, 0])
            self.assert_refused(0, [first])

    def test_numbers_of_steps(self):
        for many in (61, 62, 128, 255):
            self.assert_refused_with_checksum(1, [99, many] + [2] * many)
        self.assertEqual(decode_plan([99, 60] + [2] * 60 + [checksum([99, 60] + [2] * 60)]).steps, (TURN,) * 60)
        self.assert_refused(62, [99, 60] + [2] * 60)
        self.assert_refused(1, [99, 61])

    def test_kinds_of_steps(self):
        for kind in (3, 4, 99, 127, 128, 255):
            self.assert_refused_with_checksum(2, [99, 1, kind, 6])
            self.assert_refused_with_checksum(3, [99, 2, 2, kind])
            self.assert_refused_with_checksum(5, [99, 2, 1, 128, 1, kind])

    def test_last_groups_of_0(self):
        for kind in (0, 1):
            self.assert_refused_with_checksum(4, [99, 1, kind, 128, 0])
            self.assert_refused_with_checksum(4, [99, 1, kind, 255, 0])
            self.assert_refused_with_checksum(6, [99, 1, kind, 128, 128, 128, 0])
            self.assert_refused_with_checksum(30, [99, 1, kind] + [128] * 27 + [0])
            code = [99, 1, kind, 0]
            self.assertEqual(decode_plan(code + [checksum(code)]).steps, ((("red", "blue")[kind], 0),))
            code = [99, 1, kind, 128, 128, 1]
            self.assertEqual(decode_plan(code + [checksum(code)]).steps, ((("red", "blue")[kind], 16384),))

    def test_needs_that_are_too_great(self):
        greatest = written([("red", MOST)])[3:-1]
        for kind in (0, 1):
            for wrong in (
                [greatest[0] + 1] + greatest[1:], greatest[:-1] + [14], greatest[:-1] + [127], greatest[:-1] + [141, 1],
                [255] * 8 + [13], [255] * 8 + [127], [128] * 9 + [1], [255] * 40 + [1], [128] * 40 + [127],
            ):
                self.assert_refused_with_checksum(3, [99, 1, kind] + wrong)
                self.assert_refused_with_checksum(6, [99, 2, 0, 128, 1, kind] + wrong)
            code = [99, 1, kind] + greatest
            self.assertEqual(decode_plan(code + [checksum(code)]).steps, ((("red", "blue")[kind], MOST),))

    def test_needs_are_read_whole_before_they_are_compared(self):
        self.assert_refused(23, [99, 1, 0] + [255] * 20)
        self.assert_refused(23, [99, 1, 0] + [255] * 20 + [256, 1])
        self.assert_refused(23, [99, 1, 0] + [255] * 20 + [-1])
        self.assert_refused(23, [99, 1, 0] + [255] * 20 + [0])

    def test_wrong_checksums(self):
        for steps in ([], [TURN], [("red", 6), TURN], [("blue", MOST)]):
            code = written(steps)
            for wrong in range(256):
                if wrong != code[-1]:
                    self.assert_refused(len(code) - 1, code[:-1] + [wrong])
                    self.assert_refused(len(code) - 1, code[:-1] + [wrong, 0])

    def test_lists_are_neither_changed_nor_kept(self):
        code = written([("red", 300), TURN])
        kept = list(code)
        plan = decode_plan(code)
        self.assertEqual(code, kept)
        code[3] = 0
        code.clear()
        self.assertEqual(plan.steps, (("red", 300), TURN))
        self.assertEqual(encode_plan(plan), kept)
        encode_plan(plan).append(7)
        self.assertEqual(encode_plan(plan), kept)


if __name__ == "__main__":
    unittest.main()
