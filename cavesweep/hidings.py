"""Hidings: where somebody can be who is never met."""

from cavesweep.caves import way_between
from cavesweep.charts import bits_of, near_bits
from cavesweep.scripts import Play, played


def hiding(cave, steps):
    """Return a hiding of a script, or None."""
    play = played(cave, steps)
    foul = play.foul_ways()
    if not foul:
        return None
    # From the end to the beginning: a way that a step did not make foul was foul ahead of it.
    here = foul[0]
    ways = [here]
    for became in reversed(play.log):
        source_of = {way: source for way, source in became}
        while here in source_of:
            here = source_of[here]
        ways.append(here)
    ways.reverse()
    return ways


def comes_to(near, start, free):
    """Return the bits of the free rooms to which one comes from those of start through free ones."""
    seen = 0
    todo = start & free
    while todo:
        room = todo.bit_length() - 1
        seen = seen | 1 << room
        todo = (todo | near[room] & free) & ~seen
    return seen


def is_hiding(cave, steps, thing):
    """Return whether any object is a hiding of a script."""
    played(cave, steps)
    if type(thing) is not list or len(thing) != len(steps) + 1:
        return False
    play = Play(cave)
    if not all([play.has_way(part) for part in thing]):
        return False
    near = near_bits(cave)
    for at, step in enumerate(steps):
        way, goal = thing[at], thing[at + 1]
        if step[0] == "lead" and way == way_between(step[1], step[2]):
            return False
        play.do(step)
        free = bits_of([room for room in play.count_at if play.count_at[room] == 0])
        if way != goal and (comes_to(near, bits_of(way), free) & bits_of(goal)) == 0:
            return False
    return True
