"""Bookings: they stand for steps of plans, and can be written as lines of a text."""

from chaircarry.checks import is_number, is_whole
from chaircarry.errors import InvalidBooking, InvalidText
from chaircarry.plans import Plan, TURN
from chaircarry.words import integer_in, word_of

MAX_MEETINGS = 60


class Booking:
    """What all bookings have in common; no object of this class itself is made."""

    KIND = "booking"

    def __init__(self, words, steps):
        self.line_words = words
        self.booked_steps = steps

    def planned(self):
        """Yield the steps in order."""
        yield from self.booked_steps

    @property
    def step_count(self):
        """The number of steps."""
        return len(self.booked_steps)

    @property
    def line(self):
        """The line of a text that stands for this booking."""
        return " ".join(self.line_words)


class Meeting(Booking):
    """One meeting."""

    KIND = "meeting"

    def __init__(self, room, need):
        check_meeting(room, need)
        super().__init__([room, word_of(need)], [(room, need)])


class Series(Meeting):
    """Meetings in the same room, each one with `more` chairs more than the one before it."""

    KIND = "series"

    def __init__(self, room, need, *, times, more=0):
        super().__init__(room, need)
        check_meeting_count(times)
        if not is_whole(more):
            raise InvalidBooking("each further meeting must have an integer of chairs more")
        self.line_words.extend(["times", word_of(times)])
        if more != 0:
            self.line_words.extend(["more", word_of(more)])
        for at in range(1, times):
            check_meeting(room, need + at * more)
            self.booked_steps.append((room, need + at * more))


class Alternation(Booking):
    """Meetings in the red and the blue room in turn, the first one in the red room."""

    KIND = "alternation"

    def __init__(self, *needs):
        check_meeting_count(len(needs))
        words, steps = ["alternate"], []
        for at, need in enumerate(needs):
            room = "red" if at % 2 == 0 else "blue"
            check_meeting(room, need)
            words.append(word_of(need))
            steps.append((room, need))
        super().__init__(words, steps)


class Turning(Booking):
    """One turn of the signs."""

    KIND = "turning"

    def __init__(self):
        super().__init__(["turn"], [TURN])


def check_meeting(room, need):
    """Raise InvalidBooking unless a meeting may be in this room and have this need."""
    if room not in ("red", "blue"):
        raise InvalidBooking("a meeting is not in the red or the blue room")
    if not is_number(need, 0, Plan.MAX_CHAIRS):
        raise InvalidBooking("a need is out of range")


def check_meeting_count(many):
    """Raise InvalidBooking unless a booking may stand for so many meetings."""
    if not is_number(many, 1, MAX_MEETINGS):
        raise InvalidBooking("a number of meetings is out of range")


def plan_of(*bookings):
    """Return the plan of the steps of bookings, one after another."""
    steps = [step for booking in bookings for step in booking.planned()]
    return Plan(*steps)


def format_bookings(*bookings):
    """Return the text with a line for each booking."""
    return "\n".join([booking.line for booking in bookings])


def parse_bookings(text):
    """Return the list of the bookings of a text."""
    if text == "":
        return []
    bookings = []
    for row, line in enumerate(text.split("\n")):
        try:
            bookings.append(booking_in(line.split(" ")))
        except InvalidBooking:
            raise InvalidText(row=row) from None
    return bookings


def booking_in(words):
    """Return the booking of a line with these words; raise InvalidBooking if there is none."""
    # A word that is no integer becomes None, which no kind of booking accepts.
    match words:
        case ["turn"]:
            return Turning()
        case ["alternate", *rest]:
            needs = [integer_in(word) for word in rest]
            return Alternation(*needs)
        case [room, need]:
            return Meeting(room, integer_in(need))
        case [room, need, "times", times]:
            return Series(room, integer_in(need), times=integer_in(times))
        case [room, need, "times", times, "more", more] if more != "0":
            return Series(room, integer_in(need), times=integer_in(times), more=integer_in(more))
    raise InvalidBooking("a line has other words than those of a booking")
