"""Caves made smaller, and their least numbers beside one another."""

from cavesweep.caves import check_cave, is_way, rooms_of
from cavesweep.errors import InvalidNumber, InvalidWay
from cavesweep.least import least
from cavesweep.mixed import least_mixed
from cavesweep.rooms import least_breadth

MOST_ROOMS = 100


def check_way(cave, way):
    """Raise InvalidCave, InvalidWay, for any objects."""
    check_cave(cave)
    if not is_way(way) or way not in cave:
        raise InvalidWay("this is no way of the cave")


def cave_of(ways):
    """Return a cave of these ways, or None if there are none."""
    return tuple(sorted(set(ways))) if ways else None


def without_way(cave, way):
    """Return a cave without a way, or None if no way is left."""
    check_way(cave, way)
    return cave_of([other for other in cave if other != way])


def drawn(cave, way):
    """Return a cave drawn together by a way, or None if no way is left."""
    check_way(cave, way)
    room, gone = way
    # No other way has the same ends, so none but this one comes to lead from a room to itself.
    others = [[room if end == gone else end for end in other] for other in cave if other != way]
    return cave_of([(min(ends), max(ends)) for ends in others])


def trebled(cave):
    """Return the trebled cave, or None if it has more than a hundred rooms."""
    rooms = rooms_of(cave)
    if len(rooms) + 2 * len(cave) > MOST_ROOMS:
        return None
    ways = []
    for at, way in enumerate(cave):
        first = len(rooms) + 2 * at
        ways.extend([(rooms.index(way[0]), first), (first, first + 1), (rooms.index(way[1]), first + 1)])
    return cave_of(ways)


def number_at(cave, index):
    """Return one of the numbers of a cave, 0 if there is no cave."""
    if cave is None:
        return 0
    if index == 0:
        return least(cave)
    return least_breadth(cave) + 1 if index == 1 else least_mixed(cave)


def numbers(cave):
    """Return the least numbers of searchers that sure scripts, those of lamps, and mixed ones use."""
    check_cave(cave)
    return tuple([number_at(cave, index) for index in range(3)])


def is_tight(cave, index):
    """Return whether a number is less in each cave without one of the ways, and in each one drawn together by one."""
    check_cave(cave)
    if type(index) is not int or not 0 <= index <= 2:
        raise InvalidNumber("there is no such index")
    smaller = [made for way in cave for made in (without_way(cave, way), drawn(cave, way))]
    number = number_at(cave, index)
    return all([number_at(made, index) < number for made in smaller])
