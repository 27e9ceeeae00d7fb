"""Least scripts, by a search through the states of a cave, step by step."""

from cavesweep.caves import check_cave, rooms_of
from cavesweep.charts import Chart
from cavesweep.checks import check_number
from cavesweep.errors import InvalidBool


def steps_to(came_by, state):
    """Return the list of the steps by which the search came to a state."""
    steps = []
    while came_by[state] is not None:
        state, step = came_by[state]
        steps.append(step)
    steps.reverse()
    return steps


def fewest_steps(cave, k, doors, may_take, may_set_late):
    """Return a sure script of fewest steps, or None, among those that use k searchers at most.

    They set searchers at doors only, behind another step than a "set" only if they may set late,
    and take them up only if they may.
    """
    chart = Chart(cave)
    # A state tells the searchers, what is foul, and whether a searcher can still be set.
    start = ((), chart.every_way, True)
    came_by = {start: None}
    todo = [start]
    at = 0
    while at < len(todo):
        searchers, foul, can_set = todo[at]
        for step in chart.next_steps(searchers, doors if can_set and len(searchers) < k else [], may_take):
            rooms, left = chart.state_behind(searchers, foul, step)
            behind = (rooms, left, may_set_late or (can_set and step[0] == "set"))
            if behind not in came_by:
                came_by[behind] = (todo[at], step)
                if left == 0:
                    return steps_to(came_by, behind)
                todo.append(behind)
        at += 1
    return None


def least_script(cave, k, may_jump):
    """Return a sure script of fewest steps that uses k searchers at most and jumps only if it may, or None."""
    check_cave(cave)
    check_number(k)
    if type(may_jump) is not bool:
        raise InvalidBool("this is no bool")
    return fewest_steps(cave, k, rooms_of(cave), may_jump, may_jump)
