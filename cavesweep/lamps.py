"""Scripts of lamps: searchers who make a way clean from both its ends."""

from cavesweep.scripts import played


def can_light(cave, steps, step):
    """Return whether any object is a step that can be behind a script of lamps."""
    return played(cave, steps, "lamps").can_do(step)


def lit_by(cave, steps):
    """Return a tuple (searchers, foul): the rooms where searchers are and the foul ways behind a script of lamps."""
    return played(cave, steps, "lamps").left()


def lamps_used(cave, steps):
    """Return how many searchers a script of lamps uses."""
    return played(cave, steps, "lamps").greatest


def is_lit(cave, steps):
    """Return whether no way is foul behind a script of lamps."""
    return played(cave, steps, "lamps").is_clean()


def first_dark(cave, steps):
    """Return the index of the first step of a script of lamps that fouls a way, or None."""
    return played(cave, steps, "lamps").first_fouling()
