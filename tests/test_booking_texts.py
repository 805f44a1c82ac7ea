"""Point 11: texts of bookings."""

import re
import unittest

from chaircarry.bookings import Meeting, Series, Turning, format_bookings, parse_bookings
from chaircarry.errors import InvalidText
from tests.booking_samples import MOST, alternation, meeting, random_samples, series, turning
from tests.simulation import fixed_source

INTEGER = "(0|-?[1-9][0-9]*)"
WORDS = """red blue green Red turn Turn turns alternate times time more has carried chairs 0 1 2 3 6 7 12 59 60 61 62 -0 -1
    -2 -6 -7 06 00 -06 +6 6- --6 - ? 6.0 1e3 1_0 0x6 1000000000000000000 1000000000000000001 -1000000000000000000
    six""".split() + ["", "\u0666", "\u00b2", "\uff16", "6\r", "\t6", "6\u00a0"]
WRONG_LINES = [
    "", " ", "  ", "red", "blue", "red ", " red", "red  6", " red 6", "red 6 ", "red 6  ", "red\t6", "red 6\t",
    "red 6\r", "red\u00a06", "red 06", "red 00", "red -0", "red -6", "red -06", "red +6", "red 6-", "red - 6",
    "red --6", "red -", "red 6.0", "red 1_0", "red 0x6", "red six", "red ?", "red \u0666", "red \u00b2", "red \uff16",
    "red 6\u0667", "red 1000000000000000001", "red 6 7", "red 6 red 7", "green 6", "Red 6", "RED 6", "6", "6 red",
    "turn 1", "turn ", " turn", "turn turn", "Turn", "turned", "turn 6 times 2", "meeting", "series", "alternation",
    "alternate", "alternate ", "alternate  6", "alternate 6 ", "alternate 6  7", "alternate red 6", "alternate 6 -7",
    "alternate 6 07", "alternate -0", "alternate 1000000000000000001", "alternate 6 times 2", "Alternate 6",
    "alternate 6, 7", "alternating 6 7", "alternate" + " 6" * 61, "alternate" + " 6" * 62,
    "red 6 times", "red 6 times ", "red 6 times  3", "red 6 times 0", "red 6 times 61", "red 6 times -1",
    "red 6 times -0", "red 6 times 03", "red 6 times +3", "red 6 times three", "red 6 Times 3", "red 6 time 3",
    "red times 3", "red 6 3", "red 6 times 3 4", "red 6 times 3 ", "green 6 times 3", "red -6 times 3",
    "red 06 times 3", "red 1000000000000000001 times 1", "red times 3 6", "red 6 x 3", "red  6 times 3",
    "red 6 times 3 more", "red 6 times 3 more ", "red 6 times 3 more 0", "red 6 times 3 more -0",
    "red 6 times 3 more 00", "red 6 times 1 more 0", "red 6 times 3 more 02", "red 6 times 3 more -02",
    "red 6 times 3 more +2", "red 6 times 3 more 2-", "red 6 times 3 more - 2", "red 6 times 3 more --2",
    "red 6 times 3 more two", "red 6 times 3 less 2", "red 6 times 3 More 2", "red 6 more 2", "red 6 more 2 times 3",
    "red 6 times 3 more 2 1", "red 6 times 3 more 2 ", "red 6 times 3  more 2", "red 6 times 4 more -3",
    "red 6 times 2 more -7", "red 1000000000000000000 times 2 more 1", "blue 6 times 2 more 1000000000000000000",
    "blue 6 times 61 more 1", "blue 6 times 0 more 1", "blue 6 times 3 more \u0661", "blue 6 times \u0663",
    "red 6 times 3 more 2 more 2", "red 6,times,3", "red 6\u2028turn", "red 6\x0bturn", "red 6\x85turn", "red 6\rturn",
    "red " + "1" * 5000, "red -" + "1" * 5000, "red " + "0" * 5000, "alternate 6 " + "9" * 4301,
    "red 6 times " + "3" * 5000, "red 6 times 2 more " + "1" * 5000, "red 6 times 2 more -" + "1" * 5000,
]
RIGHT_LINES = [
    "red 0", "blue 0", "red 6", "blue 1000000000000000000", "turn", "alternate 0", "alternate 6", "alternate 6 7 8",
    "alternate" + " 6" * 60, "alternate 1000000000000000000 0", "red 6 times 1", "red 6 times 60", "blue 0 times 60",
    "red 6 times 1 more 1", "red 6 times 1 more -7", "red 6 times 1 more 1000000000000000001", "red 6 times 4 more -2",
    "red 1000000000000000000 times 2 more -1000000000000000000", "blue 0 times 2 more 1000000000000000000",
    "red 59 times 60 more -1", "red 10 times 10 more 10",
    "red 6 times 1 more " + "1" * 5000, "red 6 times 1 more -" + "1" * 5000,
]


def steps_in(line):
    """Return the steps that a line stands for, or None if it is wrong: a reader of its own."""
    if line == "turn":
        return [("turn",)]
    if re.fullmatch(f"alternate( {INTEGER})+", line):
        steps = [(("red", "blue")[at % 2], int(word)) for at, word in enumerate(line.split(" ")[1:])]
    else:
        found = re.fullmatch(f"(red|blue) {INTEGER}(?: times {INTEGER}(?: more {INTEGER})?)?", line)
        if found is None or found[4] == "0":
            return None
        times, more = int(found[3] or 1), int(found[4] or 0)
        if times not in range(1, 61):
            return None
        steps = [(found[1], int(found[2]) + at * more) for at in range(times)]
    if len(steps) > 60 or any(need not in range(MOST + 1) for room, need in steps):
        return None
    return steps


def first_wrong_row(text):
    """Return the first row of a text that is wrong, or None."""
    if text == "":
        return None
    wrong = [row for row, line in enumerate(text.split("\n")) if steps_in(line) is None]
    return wrong[0] if wrong else None


class Formatting(unittest.TestCase):
    def test_texts_and_random_bookings_lead_to_one_another(self):
        source = fixed_source(20)
        for number in range(600):
            samples = random_samples(source)
            text = "\n".join(sample.line for sample in samples)
            self.assertEqual(format_bookings(*[sample.make() for sample in samples]), text)
            parsed = parse_bookings(text)
            self.assertIsInstance(parsed, list)
            self.assertEqual([booking.KIND for booking in parsed], [sample.kind for sample in samples])
            self.assertEqual([list(booking.planned()) for booking in parsed], [sample.steps for sample in samples])
            self.assertEqual(format_bookings(*parsed), text)

    def test_the_empty_text(self):
        self.assertEqual(format_bookings(), "")
        self.assertEqual(parse_bookings(""), [])

    def test_lines_are_joined_by_line_feeds(self):
        self.assertEqual(format_bookings(Turning()), "turn")
        text = format_bookings(Meeting("red", 6), Series("blue", 6, times=3, more=-2), Turning(), Turning())
        self.assertEqual(text, "red 6\nblue 6 times 3 more -2\nturn\nturn")

    def test_kinds(self):
        kinds = [booking.KIND for booking in parse_bookings("red 6\nred 6 times 1\nalternate 6\nturn\nblue 0 times 2")]
        self.assertEqual(kinds, ["meeting", "series", "alternation", "turning", "series"])

    def test_many_bookings(self):
        text = "\n".join(["alternate 6 7", "turn"] * 500)
        self.assertEqual(format_bookings(*parse_bookings(text)), text)


class Reading(unittest.TestCase):
    def assert_wrong(self, row, text):
        with self.subTest(text=text[-60:]), self.assertRaises(InvalidText) as caught:
            parse_bookings(text)
        self.assertEqual(caught.exception.row, row)

    def test_right_lines(self):
        for line in RIGHT_LINES:
            with self.subTest(line=line[:60]):
                self.assertEqual([booking.line for booking in parse_bookings(line)], [line])
                text = f"turn\n{line}\nred 6"
                self.assertEqual([booking.line for booking in parse_bookings(text)], ["turn", line, "red 6"])

    def test_wrong_lines(self):
        for line in WRONG_LINES:
            if line != "":
                self.assert_wrong(0, line)
            self.assert_wrong(0, f"{line}\nturn")
            self.assert_wrong(0, f"{line}\nred 06")
            self.assert_wrong(2, f"turn\nred 6 times 3 more -2\n{line}")
            self.assert_wrong(1, f"alternate 6 7\n{line}\n{line}\nturn")

    def test_all_characters_in_a_number(self):
        characters = [character for character in map(chr, range(1, 0x3000)) if character not in "0123456789\n"]
        for character in characters:
            for word in (f"{character}", f"{character}6", f"6{character}", f"1{character}6"):
                if word != "-6":
                    self.assert_wrong(1, f"turn\nred {word}\nturn")
        for digit in "0123456789":
            self.assertEqual(parse_bookings(f"red {digit}")[0].line, f"red {digit}")
            self.assertEqual(parse_bookings(f"red 1{digit}6")[0].line, f"red 1{digit}6")

    def test_empty_lines(self):
        self.assert_wrong(0, "\n")
        self.assert_wrong(1, "turn\n")
        self.assert_wrong(0, "\nturn")
        self.assert_wrong(1, "turn\n\nturn")
        self.assert_wrong(2, "turn\nred 6\n")

    def test_all_short_lines(self):
        words = ["red", "turn", "alternate", "times", "more", "0", "2", "-2", ""]
        lines = [""]
        for many in range(4):
            lines = [" ".join([line, word]) if many else word for line in lines for word in words]
            for line in lines:
                self.assert_as_read(f"turn\n{line}")

    def assert_as_read(self, text):
        row = first_wrong_row(text)
        if row is not None:
            self.assert_wrong(row, text)
            return False
        with self.subTest(text=text):
            parsed = parse_bookings(text)
            self.assertEqual(format_bookings(*parsed), text)
            lines = text.split("\n") if text else []
            self.assertEqual([list(booking.planned()) for booking in parsed], [steps_in(line) for line in lines])
        return True

    def test_changed_texts(self):
        source = fixed_source(21)
        found = {True: 0, False: 0}
        for number in range(6000):
            samples = random_samples(source, 4) + [source.choice([
                meeting("red", 6), series("blue", 6, 3, -2), series("red", 6, 2, 0), alternation(6, 7), turning(),
            ])]
            source.shuffle(samples)
            lines = [sample.line.split(" ")[:12] for sample in samples]
            for change in range(source.randint(1, 2)):
                change_texts(source, lines, WORDS)
            found[self.assert_as_read("\n".join(" ".join(words) for words in lines))] += 1
        self.assertGreater(min(found.values()), 500)

    def test_changed_characters(self):
        source = fixed_source(22)
        found = {True: 0, False: 0}
        for number in range(4000):
            text = source.choice(RIGHT_LINES[:16]) + "\n" + source.choice(RIGHT_LINES[:16])
            at = source.randint(0, len(text))
            put = source.choice(["", "0", "1", "-", " ", "\n", "6", "r", "+", "\u0661"])
            found[self.assert_as_read(text[:at] + put + text[at + source.randint(0, 1):])] += 1
        self.assertGreater(min(found.values()), 500)


def change_texts(source, lines, words):
    """Replace, leave out or put in a word, or leave out or double a line."""
    row = source.randrange(len(lines))
    line = lines[row]
    change = source.randrange(7)
    if change <= 1 and line:
        line[source.randrange(len(line))] = source.choice(words)
    elif change == 2 and line:
        del line[source.randrange(len(line))]
    elif change <= 4:
        line.insert(source.randint(0, len(line)), source.choice(words))
    elif change == 5 and len(lines) > 1:
        del lines[row]
    else:
        lines.insert(row, list(line))


if __name__ == "__main__":
    unittest.main()
