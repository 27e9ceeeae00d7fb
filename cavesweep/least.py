"""The least number of searchers, by lots of clean ways."""

from cavesweep.caves import check_cave
from cavesweep.checks import check_number
from cavesweep.sweeps import Front


def ways_on(cave, lot, k, mixed=False):
    """Return the list of the foul ways by which it costs k or less to go on from a lot, if mixed in either manner."""
    front = Front(cave, lot)
    clean = set(lot)
    foul = [way for way in cave if way not in clean]
    return [way for way in foul if (front.mixed_cost(way) if mixed else front.cost(way)) <= k]


def lot_with(lot, way):
    """Return a lot with one more way."""
    return tuple(sorted([*lot, way]))


def reached(cave, k, mixed=False):
    """Return a dict from each lot to which one comes by ways that cost k or less to the last of them."""
    last_way = {(): None}
    todo = [()]
    while todo:
        lot = todo.pop()
        for way in ways_on(cave, lot, k, mixed):
            larger = lot_with(lot, way)
            if larger not in last_way:
                last_way[larger] = way
                todo.append(larger)
    return last_way


def cheapest(cave, mixed=False):
    """Return the least number of searchers, and the lots to which one comes with so many."""
    k = 1
    last_way = reached(cave, k, mixed)
    # A cave is, as a tuple, its own lot of all ways.
    while cave not in last_way:
        k += 1
        last_way = reached(cave, k, mixed)
    return (k, last_way)


def sweep_by(cave, last_way):
    """Return the sweep that ends with the last ways of the lots that it comes to."""
    ways = []
    lot = cave
    while lot:
        way = last_way[lot]
        ways.append(way)
        lot = tuple([other for other in lot if other != way])
    ways.reverse()
    return ways


def lots(cave, k):
    """Return the ascending list of all lots to which one comes by ways that cost k or less."""
    check_cave(cave)
    check_number(k)
    return sorted(reached(cave, k))


def least(cave):
    """Return the least number of searchers that a sure script uses."""
    check_cave(cave)
    return cheapest(cave)[0]


def sweep(cave):
    """Return a sweep that costs as little as a sweep can."""
    check_cave(cave)
    return sweep_by(cave, cheapest(cave)[1])
