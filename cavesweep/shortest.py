"""Least scripts, by a search through the states of a cave, step by step."""

from cavesweep.caves import check_cave, far_end
from cavesweep.charts import Chart, bits_of
from cavesweep.checks import check_number
from cavesweep.errors import InvalidBool


def next_steps(chart, searchers, may_set, may_take):
    """Return the list of the steps that can come, with searchers at these rooms."""
    steps = []
    if may_set:
        steps.extend([("set", room) for room in chart.ways_at])
    for room in sorted(set(searchers)):
        if may_take:
            steps.append(("take", room))
        steps.extend([("lead", room, far_end(way, room)) for way in chart.ways_at[room]])
    return steps


def searchers_behind(searchers, step):
    """Return the ascending tuple of the rooms where searchers are behind a step."""
    rooms = list(searchers)
    if step[0] != "set":
        rooms.remove(step[1])
    if step[0] != "take":
        rooms.append(step[-1])
    return tuple(sorted(rooms))


def steps_to(came_by, state):
    """Return the list of the steps by which the search came to a state."""
    steps = []
    while came_by[state] is not None:
        state, step = came_by[state]
        steps.append(step)
    steps.reverse()
    return steps


def least_script(cave, k, may_jump):
    """Return a sure script of fewest steps that uses k searchers at most and jumps only if it may, or None."""
    check_cave(cave)
    check_number(k)
    if type(may_jump) is not bool:
        raise InvalidBool("this is no bool")
    chart = Chart(cave)
    # A state tells the searchers, what is foul, and whether one who may not jump can still set.
    start = ((), chart.every_way, True)
    came_by = {start: None}
    todo = [start]
    at = 0
    while at < len(todo):
        searchers, foul, can_set = todo[at]
        for step in next_steps(chart, searchers, can_set and len(searchers) < k, may_jump):
            rooms = searchers_behind(searchers, step)
            left = chart.behind(step, bits_of(rooms), foul)
            behind = (rooms, left, may_jump or (can_set and step[0] == "set"))
            if behind not in came_by:
                came_by[behind] = (todo[at], step)
                if left == 0:
                    return steps_to(came_by, behind)
                todo.append(behind)
        at += 1
    return None
