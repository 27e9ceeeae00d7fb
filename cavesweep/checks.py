"""Checks of arguments that several files share."""

from cavesweep.errors import InvalidNumber


def check_number(k):
    """Raise InvalidNumber if any object is no integer from 0 on."""
    if type(k) is not int or k < 0:
        raise InvalidNumber("this is no integer from 0 on")


def check_positive(k):
    """Raise InvalidNumber if any object is no integer from 1 on."""
    if type(k) is not int or k < 1:
        raise InvalidNumber("this is no integer from 1 on")


def is_name(thing):
    """Return whether any object is a name."""
    return type(thing) is str and 1 <= len(thing) <= 8 and all(["a" <= sign <= "z" for sign in thing])
