"""Scripts of a cave: what they leave, and how many searchers they use."""

from cavesweep.caves import check_cave, far_end, is_room, is_way, way_between, ways_by_room
from cavesweep.errors import InvalidScript


def led_way(step):
    """Return the way along which a step leads, or None."""
    return way_between(step[1], step[2]) if step[0] == "lead" else None


class Play:
    """A cave in which steps come one behind another.

    The manner tells what scripts they are of: "plain", "lamps" (nobody is led, and a way with
    searchers at both its ends is clean) or "mixed" (searchers are led, and such a way is clean).
    """

    def __init__(self, cave, manner="plain"):
        self.manner = manner
        self.ways_at = ways_by_room(cave)
        self.is_foul = {way: True for way in cave}
        self.count_at = {room: 0 for room in self.ways_at}
        self.inside = 0
        self.greatest = 0
        # For each step the ways that became foul behind it, each with a foul way beside it
        # from which somebody comes there.
        self.log = []
        # For each step itself, the foul ways that it made clean, and the greatest number ahead of it.
        self.past = []

    def has_room(self, thing):
        """Return whether any object is a room of the cave."""
        return is_room(thing) and thing in self.ways_at

    def has_way(self, thing):
        """Return whether any object is a way of the cave."""
        return is_way(thing) and thing in self.is_foul

    def has_searcher(self, thing):
        """Return whether any object is a room where a searcher is."""
        return self.has_room(thing) and self.count_at[thing] > 0

    def can_lead(self, room, other):
        """Return whether a searcher can go from one room to the other, for any objects."""
        return self.has_searcher(room) and self.has_room(other) and way_between(room, other) in self.is_foul

    def can_do(self, step):
        """Return whether any object is a step that can come now."""
        if type(step) is not tuple or len(step) not in (2, 3):
            return False
        if len(step) == 3:
            return self.manner != "lamps" and step[0] == "lead" and self.can_lead(step[1], step[2])
        if step[0] == "set":
            return self.has_room(step[1])
        return step[0] == "take" and self.has_searcher(step[1])

    def move(self, step, by):
        """Move a searcher as a step tells, with 1, or back again, with -1."""
        word, room = step[0], step[1]
        if word == "lead":
            self.count_at[room] -= by
            self.count_at[step[2]] += by
        else:
            more = by if word == "set" else -by
            self.count_at[room] += more
            self.inside += more

    def shines_on(self, way):
        """Return whether a way is clean because searchers are at both its ends."""
        return self.manner != "plain" and self.count_at[way[0]] > 0 and self.count_at[way[1]] > 0

    def made_clean(self, step):
        """Return the list of the foul ways that a step makes clean whose searcher is moved already."""
        led = led_way(step)
        # Both end where the searcher is now: the way that was led along, and a way newly lit.
        return [way for way in self.ways_at[step[-1]] if self.is_foul[way] and (way == led or self.shines_on(way))]

    def do(self, step):
        """Let a step come that can."""
        greatest = self.greatest
        self.move(step, 1)
        self.greatest = max(greatest, self.inside)
        cleaned = self.made_clean(step)
        for way in cleaned:
            self.is_foul[way] = False
        self.past.append((step, cleaned, greatest))
        # Nothing comes through any room but one that a searcher left: at the others either a
        # searcher is, or all ways are alike, and both as they were.
        self.log.append(self.spread(step[1]))

    def undo(self):
        """Take the last step back, and return it."""
        step, cleaned, self.greatest = self.past.pop()
        for way, _ in self.log.pop():
            self.is_foul[way] = False
        for way in cleaned:
            self.is_foul[way] = True
        self.move(step, -1)
        return step

    def first_fouling(self):
        """Return the index of the first step that fouled a way, or None."""
        for at, (_, cleaned, _) in enumerate(self.past):
            # A way that became foul behind a step was clean ahead of it, unless the step had made it clean.
            if any([became[0] not in cleaned for became in self.log[at]]):
                return at
        return None

    def spread(self, room):
        """Let ways become foul through a room and on, and return them as the log keeps them."""
        became = []
        todo = [(room, way) for way in self.ways_at[room] if self.is_foul[way]][:1]
        while todo:
            here, source = todo.pop()
            if self.count_at[here] > 0:
                continue
            for way in self.ways_at[here]:
                if not self.is_foul[way]:
                    self.is_foul[way] = True
                    became.append((way, source))
                    todo.append((far_end(way, here), way))
        return became

    def searcher_rooms(self):
        """Return the ascending list of the rooms where searchers are, for each searcher one."""
        return [room for room in self.count_at for _ in range(self.count_at[room])]

    def foul_ways(self):
        """Return the ascending list of the foul ways."""
        return [way for way in self.is_foul if self.is_foul[way]]

    def border_rooms(self):
        """Return the ascending list of the rooms at which both clean and foul ways end."""
        return [room for room in self.ways_at if self.is_between(room)]

    def is_between(self, room):
        """Return whether both clean and foul ways end at a room."""
        foul = [way for way in self.ways_at[room] if self.is_foul[way]]
        return 0 < len(foul) < len(self.ways_at[room])

    def left(self):
        """Return a tuple (searchers, foul): the rooms where searchers are and the foul ways."""
        return (self.searcher_rooms(), self.foul_ways())

    def is_clean(self):
        """Return whether no way is foul."""
        return len(self.foul_ways()) == 0

    def done_steps(self):
        """Return the list of the steps that came."""
        return [past[0] for past in self.past]

    def copy(self):
        """Return an independent play in the same state, with the same steps behind it."""
        other = Play(tuple(self.is_foul), self.manner)
        other.is_foul = {way: self.is_foul[way] for way in self.is_foul}
        other.count_at = {room: self.count_at[room] for room in self.count_at}
        other.inside = self.inside
        other.greatest = self.greatest
        other.log = list(self.log)
        other.past = list(self.past)
        return other


def let_come(play, steps):
    """Return whether any object is a list of steps that can come, one by one; let those come that can."""
    if type(steps) is not list:
        return False
    for step in steps:
        if not play.can_do(step):
            return False
        play.do(step)
    return True


def played(cave, steps, manner="plain"):
    """Return a cave behind a script; raise InvalidCave, InvalidScript, for any objects."""
    check_cave(cave)
    play = Play(cave, manner)
    if not let_come(play, steps):
        raise InvalidScript("this is no such script of the cave")
    return play


def can_be(cave, steps, step):
    """Return whether any object is a step that can be behind a script."""
    return played(cave, steps).can_do(step)


def left_by(cave, steps):
    """Return a tuple (searchers, foul): the rooms where searchers are and the foul ways behind a script."""
    return played(cave, steps).left()


def uses(cave, steps):
    """Return how many searchers are in the cave at once, at most."""
    return played(cave, steps).greatest


def is_sure(cave, steps):
    """Return whether no way is foul behind a script."""
    return played(cave, steps).is_clean()


def jumps(cave, steps):
    """Return whether a script has a "take", or a "set" behind another step than a "set"."""
    played(cave, steps)
    moved = False
    for step in steps:
        if step[0] == "lead":
            moved = True
        elif moved or step[0] == "take":
            return True
    return False
