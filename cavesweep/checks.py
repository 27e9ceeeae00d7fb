"""Checks of arguments that several files share."""

from cavesweep.errors import InvalidNumber


def check_number(k):
    """Raise InvalidNumber if any object is no integer from 0 on."""
    if type(k) is not int or k < 0:
        raise InvalidNumber("this is no integer from 0 on")
