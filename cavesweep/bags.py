"""Rows of bags, and how orders of rooms become rows, and rows orders."""

from cavesweep.caves import check_cave
from cavesweep.charts import bits_of, near_bits
from cavesweep.errors import InvalidRow
from cavesweep.rooms import check_order, held_along, is_room_lot


def are_bags(near, thing):
    """Return whether any object is a list of bags."""
    return type(thing) is list and all([is_room_lot(near, bag) and len(bag) > 0 for bag in thing])


def is_row(cave, thing):
    """Return whether any object is a row of bags."""
    check_cave(cave)
    near = near_bits(cave)
    if not are_bags(near, thing):
        return False
    first = {}
    last = {}
    for at, bag in enumerate(thing):
        for room in bag:
            if last.get(room, at) < at - 1:
                return False
            first.setdefault(room, at)
            last[room] = at
    if len(first) < len(near):
        return False
    # The bags of each room are side by side: two rooms share one unless all of one lie ahead of all of the other.
    return all([first[room] <= last[other] and first[other] <= last[room] for room, other in cave])


def check_row(cave, row):
    """Raise InvalidCave, InvalidRow, for any objects."""
    if not is_row(cave, row):
        raise InvalidRow("this is no row of bags of the cave")


def size_of(cave, row):
    """Return the greatest number of rooms in a bag of a row."""
    check_row(cave, row)
    return max([len(bag) for bag in row])


def order_by(cave, row):
    """Return the order in which the rooms stand first in the bags of a row."""
    check_row(cave, row)
    rooms = {}
    for bag in row:
        for room in bag:
            rooms[room] = True
    return list(rooms)


def lies_within(bags, at):
    """Return whether a bag, told by bits, lies within the one ahead of it or the one behind it."""
    beside = bags[max(at - 1, 0):at] + bags[at + 1:at + 2]
    return any([(bags[at] & ~bag) == 0 for bag in beside])


def plain_row(cave, row):
    """Return what is left of a row if bags that lie within one beside them are left out, the first one first."""
    check_row(cave, row)
    left = list(row)
    bags = [bits_of(bag) for bag in row]
    at = 0
    while at < len(bags):
        if lies_within(bags, at):
            # The bag ahead does not come to lie within the one behind now: what both have, this one has, too.
            del left[at]
            del bags[at]
        else:
            at += 1
    return left


def row_of(cave, rooms):
    """Return the row with a bag for each place of an order: the room there and those held of the rooms ahead."""
    check_order(cave, rooms)
    held = held_along(cave, rooms)
    return [tuple(sorted(held[at] + [room])) for at, room in enumerate(rooms)]
