"""Bars: lists of states which show that so many searchers are not enough, whatever is let foul again."""

from cavesweep.caves import check_cave, is_room
from cavesweep.charts import Chart, bits_of
from cavesweep.checks import check_number
from cavesweep.sweeps import is_lot


def are_searchers(chart, thing):
    """Return whether any object is an ascending tuple of rooms, perhaps some more than once."""
    if type(thing) is not tuple or not all([is_room(room) and room in chart.ways_at for room in thing]):
        return False
    return thing == tuple(sorted(thing))


def is_state(chart, thing):
    """Return whether any object is a state."""
    if type(thing) is not tuple or len(thing) != 2:
        return False
    searchers, foul = thing
    if not are_searchers(chart, searchers) or not is_lot(chart.bit_of, foul):
        return False
    held = bits_of(searchers)
    bits = chart.bits_for(foul)
    free = [room for room in chart.ways_at if (held >> room & 1) == 0]
    return all([chart.bits_at[room] & bits in (0, chart.bits_at[room]) for room in free])


def states_behind(chart, k, searchers, foul):
    """Return the list of the states behind all steps that leave k searchers at most."""
    doors = list(chart.ways_at) if len(searchers) < k else []
    return [chart.state_behind(searchers, foul, step) for step in chart.next_steps(searchers, doors, True)]


def covers(foul_with, searchers, foul):
    """Return whether one of some states covers a state.

    foul_with is a dict from the searchers of the states to a dict whose keys tell what is foul in them.
    """
    return any([(less & ~foul) == 0 for less in foul_with.get(searchers, {})])


def put_in(foul_with, searchers, foul):
    """Put a state into such a dict, where it stands once."""
    with_them = foul_with.setdefault(searchers, {})
    with_them[foul] = True


def is_bar(cave, k, thing):
    """Return whether any object is a bar that k searchers are not enough."""
    check_cave(cave)
    check_number(k)
    chart = Chart(cave)
    if type(thing) is not list or not all([is_state(chart, state) for state in thing]):
        return False
    foul_with = {}
    for searchers, foul in thing:
        if len(searchers) > k or len(foul) == 0:
            return False
        put_in(foul_with, searchers, chart.bits_for(foul))
    if not covers(foul_with, (), chart.every_way):
        return False
    for searchers in foul_with:
        for foul in foul_with[searchers]:
            if not all([covers(foul_with, rooms, left) for rooms, left in states_behind(chart, k, searchers, foul)]):
                return False
    return True


def bar(cave, k):
    """Return a bar that k searchers are not enough, or None if they are."""
    check_cave(cave)
    check_number(k)
    chart = Chart(cave)
    # With a searcher at each room one more can be led along all the ways.
    if k > len(chart.ways_at):
        return None
    states = [((), chart.every_way)]
    foul_with = {}
    put_in(foul_with, (), chart.every_way)
    at = 0
    while at < len(states):
        searchers, foul = states[at]
        for rooms, left in states_behind(chart, k, searchers, foul):
            if left == 0:
                return None
            if not covers(foul_with, rooms, left):
                put_in(foul_with, rooms, left)
                states.append((rooms, left))
        at += 1
    return [(searchers, tuple(sorted(chart.ways_of(foul)))) for searchers, foul in states]
