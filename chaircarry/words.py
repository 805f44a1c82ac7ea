"""Words of texts that are integers."""

DIGITS = "0123456789"
LONG_PART = 10 ** 18


def integer_in(word):
    """Return the integer that a word stands for, or None if it is not so formed."""
    digits = word.removeprefix("-")
    if digits == "" or any([letter not in DIGITS for letter in digits]):
        return None
    # A 0 may stand only alone: neither before other digits nor behind a minus sign.
    if digits[0] == "0" and word != "0":
        return None
    # Python's `int` refuses texts of some thousand digits, so it gets one digit at a time.
    number = 0
    for digit in digits:
        number = number * 10 + int(digit)
    return number if digits == word else -number


def word_of(number):
    """Return the word that stands for an integer."""
    # Python's `str` refuses integers of some thousand digits, so it gets parts of them.
    rest = abs(number)
    parts = []
    while rest >= LONG_PART:
        rest, part = divmod(rest, LONG_PART)
        parts.append(f"{part:018d}")
    parts.append(str(rest) if number >= 0 else f"-{rest}")
    return "".join(parts[::-1])
