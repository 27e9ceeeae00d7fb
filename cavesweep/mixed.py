"""Mixed scripts: searchers who are led along ways, and who make a way clean from both its ends, too."""

from cavesweep.caves import check_cave
from cavesweep.checks import check_number
from cavesweep.least import cheapest, sweep_by
from cavesweep.scripts import played
from cavesweep.sweeps import Front, front_ahead, steps_by


def can_mix(cave, steps, step):
    """Return whether any object is a step that can be behind a mixed script."""
    return played(cave, steps, "mixed").can_do(step)


def mixed_by(cave, steps):
    """Return a tuple (searchers, foul): the rooms where searchers are and the foul ways behind a mixed script."""
    return played(cave, steps, "mixed").left()


def mixed_used(cave, steps):
    """Return how many searchers a mixed script uses."""
    return played(cave, steps, "mixed").greatest


def is_mixed(cave, steps):
    """Return whether no way is foul behind a mixed script."""
    return played(cave, steps, "mixed").is_clean()


def mixed_cost_by(cave, lot, way):
    """Return what it costs to go on from a lot by a foul way in either manner."""
    return front_ahead(cave, lot, way).mixed_cost(way)


def least_mixed(cave):
    """Return the least number of searchers of a sure mixed script."""
    check_cave(cave)
    return cheapest(cave, True)[0]


def mixed_script(cave, k):
    """Return a sure mixed script that uses k searchers at most, or None."""
    check_cave(cave)
    check_number(k)
    enough, last_way = cheapest(cave, True)
    if k < enough:
        return None
    front = Front(cave, ())
    steps = []
    # What other ways are lit besides is no harm: with less foul ahead of a step less is foul behind it.
    for way in sweep_by(cave, last_way):
        if front.lit_cost(way) < front.cost(way):
            # Both its ends are in the border then, where searchers are and are needed on: it is clean by them.
            front.go_on(way)
        else:
            steps.extend(steps_by(front, way))
    return steps
