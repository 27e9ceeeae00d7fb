"""Scripts of a cave: what they leave, and how many searchers they use."""

from cavesweep.caves import check_cave, far_end, is_room, is_way, way_between, ways_by_room
from cavesweep.errors import InvalidScript


def led_way(step):
    """Return the way along which a step leads, or None."""
    return way_between(step[1], step[2]) if step[0] == "lead" else None


class Play:
    """A cave in which steps come one behind another."""

    def __init__(self, cave):
        self.ways_at = ways_by_room(cave)
        self.is_foul = {way: True for way in cave}
        self.count_at = {room: 0 for room in self.ways_at}
        self.inside = 0
        self.greatest = 0
        # For each step the ways that became foul behind it, each with a foul way beside it
        # from which somebody comes there.
        self.log = []
        # For each step itself, whether it led along a foul way, and the greatest number ahead of it.
        self.past = []

    def has_room(self, thing):
        """Return whether any object is a room of the cave."""
        return is_room(thing) and thing in self.ways_at

    def has_way(self, thing):
        """Return whether any object is a way of the cave."""
        return is_way(thing) and thing in self.is_foul

    def has_searcher(self, thing):
        """Return whether any object is a room where a searcher is."""
        return self.has_room(thing) and self.count_at[thing] > 0

    def can_lead(self, room, other):
        """Return whether a searcher can go from one room to the other, for any objects."""
        return self.has_searcher(room) and self.has_room(other) and way_between(room, other) in self.is_foul

    def can_do(self, step):
        """Return whether any object is a step that can come now."""
        if type(step) is not tuple or len(step) not in (2, 3):
            return False
        if len(step) == 3:
            return step[0] == "lead" and self.can_lead(step[1], step[2])
        if step[0] == "set":
            return self.has_room(step[1])
        return step[0] == "take" and self.has_searcher(step[1])

    def move(self, step, by):
        """Move a searcher as a step tells, with 1, or back again, with -1."""
        word, room = step[0], step[1]
        if word == "lead":
            self.count_at[room] -= by
            self.count_at[step[2]] += by
        else:
            more = by if word == "set" else -by
            self.count_at[room] += more
            self.inside += more

    def do(self, step):
        """Let a step come that can."""
        led = led_way(step)
        self.past.append((step, led is not None and self.is_foul[led], self.greatest))
        self.move(step, 1)
        self.greatest = max(self.greatest, self.inside)
        if led is not None:
            self.is_foul[led] = False
        # Nothing comes through any room but one that a searcher left: at the others either a
        # searcher is, or all ways are alike, and both as they were.
        self.log.append(self.spread(step[1]))

    def undo(self):
        """Take the last step back."""
        step, led_foul, self.greatest = self.past.pop()
        for way, _ in self.log.pop():
            self.is_foul[way] = False
        if led_foul:
            self.is_foul[led_way(step)] = True
        self.move(step, -1)

    def has_fouled(self):
        """Return whether the last step fouled a way."""
        step, led_foul, _ = self.past[-1]
        # A way that became foul behind the step was clean ahead of it, but for one that was led along.
        led = led_way(step) if led_foul else None
        return any([way != led for way, _ in self.log[-1]])

    def spread(self, room):
        """Let ways become foul through a room and on, and return them as the log keeps them."""
        became = []
        todo = [(room, way) for way in self.ways_at[room] if self.is_foul[way]][:1]
        while todo:
            here, source = todo.pop()
            if self.count_at[here] > 0:
                continue
            for way in self.ways_at[here]:
                if not self.is_foul[way]:
                    self.is_foul[way] = True
                    became.append((way, source))
                    todo.append((far_end(way, here), way))
        return became

    def searcher_rooms(self):
        """Return the ascending list of the rooms where searchers are, for each searcher one."""
        return [room for room in self.count_at for _ in range(self.count_at[room])]

    def foul_ways(self):
        """Return the ascending list of the foul ways."""
        return [way for way in self.is_foul if self.is_foul[way]]

    def done_steps(self):
        """Return the list of the steps that came."""
        return [past[0] for past in self.past]

    def copy(self):
        """Return an independent play in the same state, with the same steps behind it."""
        other = Play(tuple(self.is_foul))
        other.is_foul = {way: self.is_foul[way] for way in self.is_foul}
        other.count_at = {room: self.count_at[room] for room in self.count_at}
        other.inside = self.inside
        other.greatest = self.greatest
        other.log = list(self.log)
        other.past = list(self.past)
        return other


def played(cave, steps):
    """Return a cave behind a script; raise InvalidCave, InvalidScript, for any objects."""
    check_cave(cave)
    if type(steps) is not list:
        raise InvalidScript("a script is a list")
    play = Play(cave)
    for step in steps:
        if not play.can_do(step):
            raise InvalidScript("a step can not be where it stands")
        play.do(step)
    return play


def can_be(cave, steps, step):
    """Return whether any object is a step that can be behind a script."""
    return played(cave, steps).can_do(step)


def left_by(cave, steps):
    """Return a tuple (searchers, foul): the rooms where searchers are and the foul ways behind a script."""
    play = played(cave, steps)
    return (play.searcher_rooms(), play.foul_ways())


def uses(cave, steps):
    """Return how many searchers are in the cave at once, at most."""
    return played(cave, steps).greatest


def is_sure(cave, steps):
    """Return whether no way is foul behind a script."""
    return len(played(cave, steps).foul_ways()) == 0


def jumps(cave, steps):
    """Return whether a script has a "take", or a "set" behind another step than a "set"."""
    played(cave, steps)
    moved = False
    for step in steps:
        if step[0] == "lead":
            moved = True
        elif moved or step[0] == "take":
            return True
    return False
