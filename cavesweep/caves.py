"""Caves, their rooms and their parts."""

from cavesweep.errors import InvalidCave, InvalidTree


def is_room(thing):
    """Return whether any object is a room."""
    return type(thing) is int and 0 <= thing <= 99


def is_way(thing):
    """Return whether any object is a way."""
    if type(thing) is not tuple or len(thing) != 2:
        return False
    room, other = thing
    return is_room(room) and is_room(other) and room < other


def are_ascending_ways(thing):
    """Return whether any object is an ascending tuple of different ways, perhaps of none."""
    if type(thing) is not tuple:
        return False
    for at, way in enumerate(thing):
        if not is_way(way) or (at > 0 and thing[at - 1] >= way):
            return False
    return True


def is_cave(thing):
    """Return whether any object is a cave."""
    return are_ascending_ways(thing) and len(thing) > 0


def check_cave(cave):
    """Raise InvalidCave if any object is no cave."""
    if not is_cave(cave):
        raise InvalidCave("this is no cave")


def way_between(room, other):
    """Return what the way between two rooms is, if there is one."""
    return (min(room, other), max(room, other))


def far_end(way, room):
    """Return the end of a way that is not this room."""
    return way[1] if way[0] == room else way[0]


def rooms_of(cave):
    """Return the ascending list of the rooms of a cave."""
    check_cave(cave)
    return sorted({room for way in cave for room in way})


def ways_by_room(cave):
    """Return a dict from each room, ascending, to the ascending list of the ways that end there."""
    ways_at = {room: [] for room in rooms_of(cave)}
    for way in cave:
        for room in way:
            ways_at[room].append(way)
    return ways_at


def near_rooms(cave):
    """Return a dict from each room, ascending, to the ascending list of the rooms beside it."""
    ways_at = ways_by_room(cave)
    return {room: [far_end(way, room) for way in ways_at[room]] for room in ways_at}


def rooms_along(ways_at, start):
    """Return the list of the rooms to which one comes from a room, this one too."""
    seen = {start: True}
    todo = [start]
    while todo:
        room = todo.pop()
        for way in ways_at[room]:
            other = far_end(way, room)
            if other not in seen:
                seen[other] = True
                todo.append(other)
    return list(seen)


def parts_of(cave):
    """Return the ascending list of the parts of a cave."""
    check_cave(cave)
    ways_at = ways_by_room(cave)
    part_by_room = {}
    for start in ways_at:
        if start not in part_by_room:
            for room in rooms_along(ways_at, start):
                part_by_room[room] = start
    # The parts come in the order of their first ways, which is the ascending one.
    parts = {}
    for way in cave:
        parts.setdefault(part_by_room[way[0]], []).append(way)
    return [tuple(ways) for ways in parts.values()]


def is_tree(thing):
    """Return whether any object is a tree."""
    return is_cave(thing) and len(rooms_of(thing)) == len(thing) + 1 and len(parts_of(thing)) == 1


def check_tree(tree):
    """Raise InvalidTree if any object is no tree."""
    if not is_tree(tree):
        raise InvalidTree("this is no tree")
