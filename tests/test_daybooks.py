"""Point 14: daybooks."""

import inspect
import re
import unittest

from chaircarry import daybooks
from chaircarry.daybooks import Daybook
from chaircarry.errors import DaybookError, InvalidNumber
from tests.simulation import Rooms, fixed_source

MOST = 10 ** 18
NUMBER = "(0|[1-9][0-9]*)"
WORDS = """red blue green turn Turn carried has chairs chair times more ? ?? 0 1 2 3 4 6 11 12 13 -0 -1 -6 06 00 +6 6- --6
    6.0 1_0 1000000000000000000 1000000000000000001 -1000000000000000000 six""".split() + ["", "\u0666", "6\r", "\t6"]


def first_wrong_row(text):
    """Return the first row of a text that is not so formed, or the 202nd, or None: a reader of its own."""
    rows = text.split("\n")
    found = re.fullmatch(f"chairs {NUMBER}", rows[0])
    if found is None or int(found[1]) > MOST:
        return 0
    for row in range(1, len(rows)):
        if row == 201 or not is_right_row(rows[row], int(found[1])):
            return row
    return None


def is_right_row(line, chairs):
    if line == "turn":
        return True
    found = re.fullmatch(fr"(?:red|blue) (?:{NUMBER} carried|has) ({NUMBER}|\?)", line)
    if found is None or found[2] != "?" and int(found[2]) > MOST:
        return False
    return found[1] is None or int(found[1]) <= chairs


def right_rows(text, start):
    """Return the rows of a right text in which all last numbers are right for a start."""
    first, *rows = text.split("\n")
    rooms = Rooms(int(first.split(" ")[1]), start)
    filled = [first]
    for row in rows:
        words = row.split(" ")
        if words[1:2] == ["has"]:
            words[2] = str(rooms.held[rooms.place[words[0]]])
        elif words[0] == "turn":
            rooms.do(("turn",))
        else:
            words[3] = str(rooms.do((words[0], int(words[1]))))
        filled.append(" ".join(words))
    return filled


def row_to_check(text, start):
    """Return what `check` must return."""
    for row, (told, right) in enumerate(zip(text.split("\n"), right_rows(text, start), strict=True)):
        if told != right and not told.endswith("?"):
            return row
    return None


def random_text(source, chairs, most=6):
    """Return a right text: its numbers are right for some start, or wrong, or missing."""
    rows = [f"chairs {chairs}"]
    for number in range(source.randint(0, most)):
        room = source.choice(["red", "blue"])
        need = source.choice([source.randint(0, chairs), source.randint(0, chairs), 0, chairs])
        rows.append(source.choice([f"{room} {need} carried ?", f"{room} {need} carried ?", f"{room} has ?", "turn"]))
    wrong = source.choice([0, 0, 1, 3])
    filled = right_rows("\n".join(rows), source.randint(0, chairs))
    for row, line in enumerate(filled):
        if row > 0 and line != "turn":
            words = line.split(" ")
            if source.randrange(8) < wrong:
                near = max(0, int(words[-1]) + source.choice([-1, 1]))
                wrong_number = source.choice([near, source.randint(0, chairs + 1), MOST, chairs, 0])
                words[-1] = str(min(wrong_number, MOST))
            elif source.randrange(2) == 0:
                words[-1] = "?"
            filled[row] = " ".join(words)
    return "\n".join(filled)


class Interface(unittest.TestCase):
    def test_definitions(self):
        self.assertEqual(Daybook.__module__, "chaircarry.daybooks")
        self.assertIsInstance(vars(Daybook)["row_count"], property)
        for name in ("check", "filled", "fitting_starts"):
            self.assertTrue(inspect.isfunction(vars(Daybook)[name]))
        self.assertIs(daybooks.Daybook, Daybook)

    def test_parameters(self):
        daybook = Daybook(text="chairs 10\nred 6 carried 1")
        self.assertEqual([daybook.check(start=5), daybook.check(start=4)], [None, 1])
        self.assertEqual(daybook.filled(start=4), "chairs 10\nred 6 carried 2")


class Judging(unittest.TestCase):
    def assert_as_simulated(self, text, chairs):
        daybook = Daybook(text)
        self.assertEqual(daybook.row_count, len(text.split("\n")))
        fitting = []
        for start in range(chairs + 1):
            expected = row_to_check(text, start)
            self.assertEqual(daybook.check(start), expected)
            self.assertEqual(daybook.filled(start), "\n".join(right_rows(text, start)))
            if expected is None:
                fitting.append(start)
        if not fitting:
            self.assertIsNone(daybook.fitting_starts())
        else:
            self.assertEqual(daybook.fitting_starts(), (fitting[0], fitting[-1]))
            self.assertEqual(fitting, list(range(fitting[0], fitting[-1] + 1)))
        return len(fitting)

    def test_random_daybooks(self):
        source = fixed_source(60)
        found = {"none": 0, "one": 0, "some": 0, "all": 0}
        for number in range(2500):
            chairs = source.randint(0, 12)
            text = random_text(source, chairs, 8)
            with self.subTest(text=text):
                many = self.assert_as_simulated(text, chairs)
                found["none" if many == 0 else "all" if many > chairs else "one" if many == 1 else "some"] += 1
        self.assertGreater(min(found.values()), 100)

    def test_all_short_daybooks(self):
        rows = ["turn"] + [f"{room} {told}" for room in ("red", "blue") for told in (
            "0 carried ?", "2 carried ?", "2 carried 0", "2 carried 1", "3 carried 1", "3 carried 4",
            "has ?", "has 0", "has 2", "has 4", f"has {MOST}",
        )]
        for first in rows:
            for second in rows:
                with self.subTest(first=first, second=second):
                    self.assert_as_simulated(f"chairs 3\n{first}\n{second}", 3)

    def test_without_further_rows(self):
        for chairs in (0, 1, 10, MOST):
            daybook = Daybook(f"chairs {chairs}")
            self.assertEqual([daybook.row_count, daybook.fitting_starts()], [1, (0, chairs)])
            self.assertEqual([daybook.check(0), daybook.filled(chairs)], [None, f"chairs {chairs}"])

    def test_the_first_wrong_row(self):
        text = "chairs 10\nturn\nred has 9\nblue 7 carried 9\nblue has 9\nturn"
        self.assertEqual(Daybook(text).check(1), 3)
        self.assertEqual(Daybook(text).check(2), 2)
        self.assertEqual(Daybook(text).filled(2), "chairs 10\nturn\nred has 8\nblue 7 carried 5\nblue has 7\nturn")
        self.assertIsNone(Daybook(text).fitting_starts())

    def test_numbers_that_can_never_be_right(self):
        for row in (f"red 6 carried {MOST}", f"blue has {MOST}", "red 6 carried 7", "blue has 11", "red has 11"):
            daybook = Daybook(f"chairs 10\nturn\n{row}")
            self.assertEqual([daybook.check(0), daybook.check(10), daybook.fitting_starts()], [2, 2, None])

    def test_kinds_of_values(self):
        daybook = Daybook("chairs 10\nred 6 carried 2")
        self.assertIsInstance(daybook.fitting_starts(), tuple)
        self.assertIs(daybook.check(4), None)

    def test_wrong_starts(self):
        source = fixed_source(61)
        for number in range(60):
            chairs = source.choice([0, 1, 10, MOST - 1, MOST])
            daybook = Daybook(random_text(source, chairs))
            before = [daybook.row_count, daybook.fitting_starts(), daybook.filled(chairs), daybook.filled(0)]
            for start in (-1, chairs + 1, -MOST, chairs + MOST, True, False):
                for call in (daybook.check, daybook.filled):
                    with self.assertRaises(InvalidNumber):
                        call(start)
            self.assertEqual(before, [
                daybook.row_count, daybook.fitting_starts(), daybook.filled(chairs), daybook.filled(0),
            ])

    def test_great_houses(self):
        source = fixed_source(62)
        fitting = 0
        for number in range(600):
            chairs = MOST - source.choice([0, 1, source.randint(0, 100)])
            text = random_text(source, chairs)
            daybook = Daybook(text)
            starts = [0, chairs, source.randint(0, chairs), source.randint(0, chairs)]
            with self.subTest(text=text):
                found = daybook.fitting_starts()
                if found is not None:
                    fitting += 1
                    least, greatest = found
                    self.assertTrue(0 <= least <= greatest <= chairs)
                    for start in (least, greatest, (least + greatest) // 2, source.randint(least, greatest)):
                        self.assertIsNone(row_to_check(text, start))
                        self.assertIsNone(daybook.check(start))
                    starts += [start for start in (least - 1, greatest + 1) if 0 <= start <= chairs]
                for start in starts:
                    fits = found is not None and found[0] <= start <= found[1]
                    self.assertEqual(daybook.check(start), row_to_check(text, start))
                    self.assertEqual(daybook.check(start) is None, fits)
                    self.assertEqual(daybook.filled(start), "\n".join(right_rows(text, start)))
        self.assertGreater(fitting, 200)

    def test_filled_texts_are_right(self):
        source = fixed_source(63)
        for number in range(200):
            chairs = source.choice([12, MOST])
            start = source.randint(0, chairs)
            filled = Daybook(random_text(source, chairs)).filled(start)
            daybook = Daybook(filled)
            self.assertIsNone(daybook.check(start))
            self.assertEqual(daybook.filled(start), filled)
            self.assertTrue(daybook.fitting_starts()[0] <= start <= daybook.fitting_starts()[1])


class Forming(unittest.TestCase):
    def assert_wrong(self, row, text):
        with self.subTest(text=text[-80:]), self.assertRaises(DaybookError) as caught:
            Daybook(text)
        self.assertEqual(caught.exception.row, row)

    def test_first_rows(self):
        for line in (
            "", " ", "chairs", "chairs ", "chairs -1", "chairs -0", "chairs 010", "chairs 00", "chairs +1", "chairs ?",
            "chairs 1000000000000000001", "chairs 10 ", " chairs 10", "chairs  10", "chairs 10 10", "Chairs 10", "10",
            "chair 10", "10 chairs", "chairs ten", "chairs 1.0", "chairs \u0661", "chairs\t10", "chairs 10\r", "turn",
            "red 6 carried 2", "red has 4", "chairs " + "1" * 5000, "chairs 10 carried 2", "chairs has 10",
        ):
            self.assert_wrong(0, line)
            self.assert_wrong(0, f"{line}\nturn")
            self.assert_wrong(0, f"{line}\nwrong")

    def test_further_rows(self):
        for line in (
            "", " ", "turn ", " turn", "turn 1", "turn ?", "Turn", "turns", "turn turn", "chairs 10", "chairs 11",
            "red", "red ", "red 6", "red 6 carried", "red 6 carried ", "red 6 carried 2 ", "red  6 carried 2",
            " red 6 carried 2", "red 6  carried 2", "red 6 carried  2", "red 6 carried 2 2", "red 6 carried ? ?",
            "red 6 carried ??", "red 6 carried 2?", "red 6 carried -", "red 6 carried -2", "red 6 carried -0",
            "red 6 carried 02", "red 6 carried 00", "red 6 carried +2", "red 6 carried 2-", "red 6 carried two",
            "red 6 carried \u0662", "red 6 carried 2\r", "red 6 carried\t2", "red 6 Carried 2", "red 6 carry 2",
            "red 6 has 2", "red carried 2", "red carried 6 2", "red ? carried 2", "red ? carried ?", "red -1 carried 0",
            "red -0 carried 0", "red 06 carried 2", "red 00 carried 0", "red 11 carried 0", "blue 11 carried ?",
            f"red {MOST} carried 0", f"red 6 carried {MOST + 1}", f"red 11 carried {MOST + 1}", "green 6 carried 2",
            "Red 6 carried 2", "6 red carried 2", "6 carried 2", "red has", "red has ", "red has -1", "red has -0",
            "red has 04", "red has 00", "red has four", f"red has {MOST + 1}", "red has 4 ", "red  has 4", "red has  4",
            "red has 4 4", "red has ??", "red has ? ?", "green has 4", "Red has 4", "red had 4", "red Has 4", "has 4",
            "red 4 has", "red 4", "red ?", "red 6 carried 2 turn", "blue has 1.0", "blue has 1_0", "?", "6", "red has\u00a04",
            "red has " + "1" * 5000, "red " + "1" * 5000 + " carried 2", "red 6 carried " + "1" * 5000,
            "red 6\u2028turn", "turn\x0bturn", "turn\x85turn", "turn\rturn", "turn\r",
        ):
            self.assert_wrong(1, f"chairs 10\n{line}")
            self.assert_wrong(1, f"chairs 10\n{line}\nturn\nwrong")
            self.assert_wrong(3, f"chairs 10\nred 6 carried ?\nturn\n{line}\nred has 4")

    def test_right_rows(self):
        for line in (
            "turn", "red 0 carried 0", "blue 0 carried ?", "red 10 carried 10", "blue 10 carried 0", "red 6 carried ?",
            f"red 6 carried {MOST}", f"blue has {MOST}", "red has 0", "red has ?", "blue has 11", "red 6 carried 11",
        ):
            self.assertEqual(Daybook(f"chairs 10\n{line}").row_count, 2)
            self.assertEqual(Daybook(f"chairs 10\n{line}\nturn\n{line}").row_count, 4)

    def test_needs_just_above_the_number_of_chairs(self):
        for chairs in (0, 1, 9, 10, 12, MOST - 1, MOST):
            for room in ("red", "blue"):
                self.assertEqual(Daybook(f"chairs {chairs}\n{room} {chairs} carried ?").row_count, 2)
                self.assert_wrong(1, f"chairs {chairs}\n{room} {chairs + 1} carried ?")
                self.assert_wrong(2, f"chairs {chairs}\nturn\n{room} {chairs + 1} carried 0")

    def test_numbers_just_above_the_greatest_one(self):
        for chairs in (0, MOST):
            self.assertEqual(Daybook(f"chairs {chairs}\nred has {MOST}\nred 0 carried {MOST}").row_count, 3)
            self.assert_wrong(1, f"chairs {chairs}\nred has {MOST + 1}\nred 0 carried {MOST}")
            self.assert_wrong(2, f"chairs {chairs}\nred has {MOST}\nred 0 carried {MOST + 1}")
        self.assert_wrong(0, f"chairs {MOST + 1}\nred has {MOST}")

    def test_numbers_of_rows(self):
        full = ["chairs 10"] + ["turn", "red 6 carried ?", "blue has ?", "blue 7 carried ?"] * 50
        daybook = Daybook("\n".join(full))
        self.assertEqual([daybook.row_count, daybook.fitting_starts(), daybook.check(5)], [201, (0, 10), None])
        self.assertEqual(daybook.filled(3), "\n".join(right_rows("\n".join(full), 3)))
        for more in (["turn"], ["turn", "turn"], [""], ["wrong"], ["turn", "wrong"], ["turn"] * 300):
            self.assert_wrong(201, "\n".join(full + more))
        for row in (0, 1, 100, 200):
            wrong = list(full)
            wrong[row] = "wrong"
            self.assert_wrong(row, "\n".join(wrong))
            self.assert_wrong(row, "\n".join(wrong + ["turn"]))
        self.assertEqual(Daybook("\n".join(full[:200])).row_count, 200)

    def test_long_daybooks(self):
        source = fixed_source(64)
        for number in range(20):
            rows = [f"chairs {12}"] + source.choices([
                "turn", "red 6 carried ?", "blue 7 carried ?", "red has ?", "blue 12 carried ?", "red 0 carried ?",
            ], k=200)
            start = source.randint(0, 12)
            filled = right_rows("\n".join(rows), start)
            at = source.randint(1, 200)
            rows[at] = filled[at]
            text = "\n".join(rows)
            fitting = [each for each in range(13) if row_to_check(text, each) is None]
            self.assertEqual(Daybook(text).fitting_starts(), (fitting[0], fitting[-1]))

    def test_empty_rows(self):
        self.assert_wrong(0, "\n")
        self.assert_wrong(1, "chairs 10\n")
        self.assert_wrong(1, "chairs 10\n\nturn")
        self.assert_wrong(2, "chairs 10\nturn\n")
        self.assert_wrong(0, "\nchairs 10")

    def test_changed_texts(self):
        source = fixed_source(65)
        found = {True: 0, False: 0}
        for number in range(6000):
            rows = [row.split(" ") for row in random_text(source, source.randint(0, 12)).split("\n")]
            for change in range(source.randint(1, 2)):
                self.change(source, rows)
            text = "\n".join(" ".join(words) for words in rows)
            row = first_wrong_row(text)
            found[row is None] += 1
            if row is not None:
                self.assert_wrong(row, text)
            else:
                with self.subTest(text=text):
                    chairs = int(rows[0][1])
                    start = source.randint(0, chairs)
                    self.assertEqual(Daybook(text).row_count, len(rows))
                    self.assertEqual(Daybook(text).check(start), row_to_check(text, start))
                    self.assertEqual(Daybook(text).filled(start), "\n".join(right_rows(text, start)))
        self.assertGreater(min(found.values()), 500)

    def change(self, source, rows):
        """Replace, leave out or put in a word, or leave out, double or add a row."""
        row = source.randrange(len(rows))
        words = rows[row]
        change = source.randrange(9)
        if change <= 2 and words:
            words[source.randrange(len(words))] = source.choice(WORDS)
        elif change == 3 and words:
            del words[source.randrange(len(words))]
        elif change <= 5:
            words.insert(source.randint(0, len(words)), source.choice(WORDS))
        elif change == 6 and len(rows) > 1:
            del rows[row]
        elif change == 7:
            rows.append([])
        else:
            rows.insert(row, list(words))


if __name__ == "__main__":
    unittest.main()
