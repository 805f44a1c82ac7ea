"""Checks of numbers, and of a plan against a house."""

from chaircarry.errors import InvalidNumber, TooFewChairs


def is_whole(value):
    """Tell whether a value is an integer."""
    # Python counts True and False as integers, the package does not.
    return isinstance(value, int) and not isinstance(value, bool)


def is_number(value, least, most):
    """Tell whether a value is an integer from `least` to `most`."""
    return is_whole(value) and least <= value <= most


def check_number(value, least, most):
    """Raise InvalidNumber unless a value is an integer from `least` to `most`."""
    if not is_number(value, least, most):
        raise InvalidNumber(f"a number is not from {least} to {most}")


def check_house(plan, chairs):
    """Raise InvalidNumber unless a house may have so many chairs, and TooFewChairs if a meeting needs more."""
    check_number(chairs, 0, plan.MAX_CHAIRS)
    for index, step in enumerate(plan.steps):
        if len(step) == 2 and step[1] > chairs:
            raise TooFewChairs(index=index)


def check_start(plan, chairs, start):
    """Raise the errors of `check_house`, and InvalidNumber unless the red room may have so many chairs at first."""
    check_house(plan, chairs)
    check_number(start, 0, chairs)
