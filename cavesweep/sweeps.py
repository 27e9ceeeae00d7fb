"""Lots of clean ways, what it costs to go on from them, and sweeps."""

from cavesweep.caves import are_ascending_ways, check_cave, far_end, is_way
from cavesweep.errors import InvalidLot, InvalidSweep, InvalidWay


class Front:
    """A lot of a cave that grows way by way, and its border."""

    def __init__(self, cave, lot):
        self.all_at = {}
        for way in cave:
            for room in way:
                self.all_at[room] = self.all_at.get(room, 0) + 1
        self.foul_at = {room: self.all_at[room] for room in self.all_at}
        self.width = 0
        for way in lot:
            self.go_on(way)

    def go_on(self, way):
        """Put a foul way into the lot."""
        for room in way:
            if self.foul_at[room] == self.all_at[room]:
                self.width += 1
            self.foul_at[room] -= 1
            if self.foul_at[room] == 0:
                self.width -= 1

    def in_border(self, room):
        """Return whether a room is in the border."""
        return 0 < self.foul_at[room] < self.all_at[room]

    def cost_from(self, room):
        """Return what it costs to go on by a foul way with this end of it as the beginning."""
        if self.in_border(room):
            return self.width if self.foul_at[room] == 1 else self.width + 1
        return self.width + 1 if self.all_at[room] == 1 else self.width + 2

    def beginning(self, way):
        """Return the end of a foul way from which it costs less to go on."""
        room, other = way
        return room if self.cost_from(room) <= self.cost_from(other) else other

    def cost(self, way):
        """Return what it costs to go on by a foul way."""
        return self.cost_from(self.beginning(way))

    def lit_cost(self, way):
        """Return how many searchers are in the border and at both ends of a foul way, one at each room."""
        return self.width + len([room for room in way if not self.in_border(room)])

    def mixed_cost(self, way):
        """Return what it costs to go on by a foul way in either manner."""
        return min(self.cost(way), self.lit_cost(way))


def known_ways(cave):
    """Return a dict whose keys are the ways of a cave."""
    return {way: True for way in cave}


def is_lot(known, thing):
    """Return whether any object is a lot of the cave with these known ways."""
    return are_ascending_ways(thing) and all([way in known for way in thing])


def is_sweep(cave, thing):
    """Return whether any object is a sweep of a cave."""
    if type(thing) is not list or len(thing) != len(cave):
        return False
    return all([is_way(way) for way in thing]) and tuple(sorted(thing)) == cave


def check_sweep(cave, ways):
    """Raise InvalidCave, InvalidSweep, for any objects."""
    check_cave(cave)
    if not is_sweep(cave, ways):
        raise InvalidSweep("this is no sweep of the cave")


def front_ahead(cave, lot, way):
    """Return a lot of a cave ahead of a foul way; raise InvalidCave, InvalidLot, InvalidWay, for any objects."""
    check_cave(cave)
    if not is_lot(known_ways(cave), lot):
        raise InvalidLot("this is no lot of the cave")
    if not is_way(way) or way not in cave or way in lot:
        raise InvalidWay("this is no foul way")
    return Front(cave, lot)


def cost_by(cave, lot, way):
    """Return what it costs to go on from a lot by a foul way."""
    return front_ahead(cave, lot, way).cost(way)


def cost_of(cave, ways):
    """Return what a sweep costs."""
    check_sweep(cave, ways)
    front = Front(cave, ())
    greatest = 0
    for way in ways:
        greatest = max(greatest, front.cost(way))
        front.go_on(way)
    return greatest


def steps_by(front, way):
    """Return steps that make the next way of a sweep clean, and put it into the lot.

    Ahead of them and behind them one searcher is at each room of the border, and none elsewhere.
    """
    start = front.beginning(way)
    goal = far_end(way, start)
    steps = [("set", start)] * (front.cost_from(start) - front.width)
    steps.append(("lead", start, goal))
    at_goal = 2 if front.in_border(goal) else 1
    front.go_on(way)
    needed = 1 if front.in_border(goal) else 0
    return steps + [("take", goal)] * (at_goal - needed)


def script_of(cave, ways):
    """Return a sure script that cleans the ways in the order of a sweep with as many searchers as it costs."""
    check_sweep(cave, ways)
    front = Front(cave, ())
    steps = []
    for way in ways:
        steps.extend(steps_by(front, way))
    return steps
