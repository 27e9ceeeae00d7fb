"""Rooms and foul ways as the bits of numbers, for whole crowds of states of a cave."""

from cavesweep.caves import far_end, near_rooms, way_between, ways_by_room


def bits_of(rooms):
    """Return rooms as the bits of a number."""
    bits = 0
    for room in rooms:
        bits = bits | 1 << room
    return bits


def near_bits(cave):
    """Return a dict from each room, ascending, to the bits of the rooms beside it."""
    near = near_rooms(cave)
    return {room: bits_of(near[room]) for room in near}


def searchers_behind(searchers, step):
    """Return the ascending tuple of the rooms where searchers are behind a step."""
    rooms = list(searchers)
    if step[0] != "set":
        rooms.remove(step[1])
    if step[0] != "take":
        rooms.append(step[-1])
    return tuple(sorted(rooms))


class Chart:
    """A cave with a bit for each way: what is foul behind a step, whatever was foul ahead of it."""

    def __init__(self, cave):
        self.ways = cave
        self.ways_at = ways_by_room(cave)
        self.bit_of = {way: 1 << at for at, way in enumerate(cave)}
        self.bits_at = {room: self.bits_for(self.ways_at[room]) for room in self.ways_at}
        self.every_way = (1 << len(cave)) - 1

    def behind(self, step, held, foul):
        """Return what is foul behind a step: of what was foul ahead, and the rooms where searchers are behind it."""
        if step[0] == "lead":
            foul = foul & ~self.bit_of[way_between(step[1], step[2])]
        return self.spread(step[1], held, foul)

    def next_steps(self, searchers, doors, may_take):
        """Return the list of the steps that can come, with searchers at these rooms, if one is set at doors only."""
        steps = [("set", room) for room in doors]
        for room in sorted(set(searchers)):
            if may_take:
                steps.append(("take", room))
            steps.extend([("lead", room, far_end(way, room)) for way in self.ways_at[room]])
        return steps

    def state_behind(self, searchers, foul, step):
        """Return a tuple (searchers, foul) as they are behind a step."""
        rooms = searchers_behind(searchers, step)
        return (rooms, self.behind(step, bits_of(rooms), foul))

    def spread(self, room, held, foul):
        """Return what is foul if ways become so through a room and on."""
        todo = [room] if self.bits_at[room] & foul else []
        while todo:
            here = todo.pop()
            clean = self.bits_at[here] & ~foul
            if clean and (held >> here & 1) == 0:
                foul = foul | clean
                todo.extend([far_end(way, here) for way in self.ways_of(clean)])
        return foul

    def bits_for(self, ways):
        """Return different ways of the cave as bits."""
        return sum([self.bit_of[way] for way in ways])

    def ways_of(self, bits):
        """Return the list of the ways, the last one first, that are told by bits."""
        found = []
        while bits:
            at = bits.bit_length() - 1
            bits = bits ^ 1 << at
            found.append(self.ways[at])
        return found
