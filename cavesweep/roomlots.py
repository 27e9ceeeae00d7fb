"""Lots of rooms, and papers of them which show that a breadth is not enough."""

from cavesweep.caves import check_cave, rooms_of
from cavesweep.charts import bits_of, near_bits
from cavesweep.checks import check_number
from cavesweep.rooms import held_with, is_room_lot, lots_within


def room_lots(cave, k):
    """Return the ascending list of the lots to which one comes, room by room, with k held at most."""
    check_cave(cave)
    check_number(k)
    near = near_bits(cave)
    return sorted([tuple([room for room in near if lot >> room & 1]) for lot in lots_within(near, k)])


def is_room_paper(cave, k, thing):
    """Return whether any object is a paper that a breadth of k is not enough."""
    check_cave(cave)
    check_number(k)
    near = near_bits(cave)
    if type(thing) is not list or not all([is_room_lot(near, lot) for lot in thing]):
        return False
    stands = {bits_of(lot): True for lot in thing}
    if 0 not in stands or bits_of(list(near)) in stands:
        return False
    for lot in stands:
        many_with = held_with(near, lot)
        if any([many_with[room] <= k and (lot | 1 << room) not in stands for room in many_with]):
            return False
    return True


def room_paper(cave, k):
    """Return a paper that a breadth of k is not enough, or None if it is."""
    found = room_lots(cave, k)
    return None if tuple(rooms_of(cave)) in found else found
