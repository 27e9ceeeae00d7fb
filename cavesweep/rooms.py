"""Orders of rooms, their breadth, and the scripts of lamps that they become."""

from cavesweep.caves import check_cave, is_room, rooms_of
from cavesweep.charts import bits_of, near_bits
from cavesweep.errors import InvalidNumber, InvalidOrder


def is_room_lot(near, thing):
    """Return whether any object is a lot of the rooms that near has."""
    if type(thing) is not tuple or not all([is_room(room) and room in near for room in thing]):
        return False
    return thing == tuple(sorted(set(thing)))


def held_in(near, lot):
    """Return the ascending list of the rooms of a lot, told by bits, at which a way ends that leads out of it."""
    return [room for room in near if lot >> room & 1 and near[room] & ~lot]


def held_with(near, lot):
    """Return a dict from each room outside a lot, told by bits, to how many rooms are held of the lot with it."""
    beyond = [near[room] & ~lot for room in held_in(near, lot)]
    found = {}
    for room in near:
        if (lot >> room & 1) == 0:
            # Rooms beyond which there was this room alone are not held any more.
            found[room] = len(beyond) - beyond.count(1 << room) + (1 if near[room] & ~lot else 0)
    return found


def check_order(cave, rooms):
    """Raise InvalidCave, InvalidOrder, for any objects."""
    check_cave(cave)
    if type(rooms) is not list or not all([is_room(room) for room in rooms]) or sorted(rooms) != rooms_of(cave):
        raise InvalidOrder("this is no order of the cave")


def held_along(cave, rooms):
    """Return the list of what is held of the first rooms of an order: of none, of one, and so on."""
    near = near_bits(cave)
    return [held_in(near, bits_of(rooms[:number])) for number in range(len(rooms) + 1)]


def held_rooms(cave, rooms, number):
    """Return the ascending list of the rooms that are held of so many first rooms of an order."""
    check_order(cave, rooms)
    if type(number) is not int or not 0 <= number <= len(rooms):
        raise InvalidNumber("this is no number of first rooms")
    return held_along(cave, rooms)[number]


def breadth(cave, rooms):
    """Return the greatest number of rooms that are held of the first rooms of an order."""
    check_order(cave, rooms)
    return max([len(held) for held in held_along(cave, rooms)])


def lamps_of(cave, rooms):
    """Return a sure script of lamps that sets a searcher at each room once, in an order, and fouls no way."""
    check_order(cave, rooms)
    held = held_along(cave, rooms)
    steps = []
    for at, room in enumerate(rooms):
        steps.append(("set", room))
        # Whoever is not held any more, perhaps the one just set, can go: all ways there are clean.
        steps.extend([("take", other) for other in held[at] + [room] if other not in held[at + 1]])
    return steps


def lots_within(near, k):
    """Return a dict from each lot of rooms, as bits, to the last room by which one comes to it, or None.

    One comes to it from the empty one, room by room, so that never more than k are held.
    """
    last_room = {0: None}
    todo = [0]
    while todo:
        lot = todo.pop()
        many_with = held_with(near, lot)
        for room in many_with:
            larger = lot | 1 << room
            if larger not in last_room and many_with[room] <= k:
                last_room[larger] = room
                todo.append(larger)
    return last_room


def narrowest(cave):
    """Return the least breadth of an order, and the lots of rooms to which one comes with so much."""
    near = near_bits(cave)
    every_room = bits_of(list(near))
    k = 1
    last_room = lots_within(near, k)
    while every_room not in last_room:
        k += 1
        last_room = lots_within(near, k)
    return (k, last_room)


def least_breadth(cave):
    """Return the least breadth of an order."""
    check_cave(cave)
    return narrowest(cave)[0]


def best_order(cave):
    """Return an order of the least breadth."""
    check_cave(cave)
    last_room = narrowest(cave)[1]
    rooms = []
    lot = bits_of(rooms_of(cave))
    while lot:
        room = last_room[lot]
        rooms.append(room)
        lot = lot ^ 1 << room
    rooms.reverse()
    return rooms
