"""Steps of scripts that can be left out, and what scripts leave and foul."""

from cavesweep.charts import Chart, bits_of
from cavesweep.scripts import Play, left_by, played


def change_without(step):
    """Return (fewer, more): the rooms, or None, where without a step a searcher less is, and one more."""
    if step[0] == "set":
        return (step[1], None)
    if step[0] == "take":
        return (None, step[1])
    return (step[2], step[1])


def held_by(count_at):
    """Return the bits of the rooms where searchers are."""
    return bits_of([room for room in count_at if count_at[room] > 0])


def held_after(change, count_at, held):
    """Return the bits of the rooms where searchers are with a change."""
    fewer, more = change
    if fewer is not None and count_at[fewer] == 1:
        held = held & ~(1 << fewer)
    if more is not None:
        held = held | 1 << more
    return held


def runs_behind(chart, runs, step, count_at):
    """Return the runs in which a step can come, as they are behind it."""
    held = held_by(count_at)
    behind = {}
    for (change, foul), left_out in runs.items():
        # If the searcher who is fewer in the run was the last one at the room, the step, or one
        # like it, took or led that one away.
        if change[0] is None or count_at[change[0]] > 0:
            key = (change, chart.behind(step, held_after(change, count_at, held), foul))
            behind.setdefault(key, []).extend(left_out)
    return behind


def needless(cave, steps):
    """Return the ascending list of the indexes of the steps without which no more ways are foul in the end."""
    played(cave, steps)
    chart = Chart(cave)
    play = Play(cave)
    foul = chart.every_way
    # Runs of the script without one step, by their change of searchers and their foul ways, with
    # the indexes of those steps: what is the same in both stays the same, and goes on as one run.
    runs = {}
    for at, step in enumerate(steps):
        play.do(step)
        runs = runs_behind(chart, runs, step, play.count_at)
        runs.setdefault((change_without(step), foul), []).append(at)
        foul = chart.behind(step, held_by(play.count_at), foul)
    many = len(chart.ways_of(foul))
    found = []
    for (_, left_foul), left_out in runs.items():
        if len(chart.ways_of(left_foul)) <= many:
            found.extend(left_out)
    return sorted(found)


def alike(cave, steps, other):
    """Return whether two scripts leave the same searchers and foul ways."""
    return left_by(cave, steps) == left_by(cave, other)


def first_foul(cave, steps):
    """Return the index of the first step that fouls a way, or None."""
    return played(cave, steps).first_fouling()
