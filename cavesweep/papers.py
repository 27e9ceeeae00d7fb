"""Papers: lists of lots which show that so many searchers are not enough."""

from cavesweep.caves import check_cave
from cavesweep.checks import check_number
from cavesweep.least import lot_with, reached, ways_on
from cavesweep.sweeps import is_lot, known_ways


def is_paper(cave, k, thing):
    """Return whether any object is a paper that k searchers are not enough."""
    check_cave(cave)
    check_number(k)
    known = known_ways(cave)
    if type(thing) is not list or not all([is_lot(known, lot) for lot in thing]):
        return False
    stands = {lot: True for lot in thing}
    if () not in stands or cave in stands:
        return False
    for lot in stands:
        for way in ways_on(cave, lot, k):
            if lot_with(lot, way) not in stands:
                return False
    return True


def paper(cave, k):
    """Return a paper that k searchers are not enough, or None if they are."""
    check_cave(cave)
    check_number(k)
    last_way = reached(cave, k)
    if cave in last_way:
        return None
    return sorted(last_way)
