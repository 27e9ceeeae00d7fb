"""Scripts that come in by a gate."""

from cavesweep.caves import check_cave, is_room, parts_of, rooms_of
from cavesweep.checks import check_number
from cavesweep.errors import InvalidRoom
from cavesweep.scripts import Play, let_come
from cavesweep.shortest import fewest_steps


def check_gate(cave, gate):
    """Raise InvalidCave, InvalidRoom, for any objects."""
    check_cave(cave)
    if not is_room(gate) or gate not in rooms_of(cave):
        raise InvalidRoom("this is no room of the cave")


def comes_in(cave, gate, steps):
    """Return whether any object is a script from a gate."""
    check_gate(cave, gate)
    return let_come(Play(cave), steps) and all([step[0] == "lead" or step == ("set", gate) for step in steps])


def hangs_together(cave):
    """Return whether a cave hangs together: if not, there is no sure script from a gate, with any number."""
    return len(parts_of(cave)) == 1


def least_from(cave, gate):
    """Return the least number of searchers that a sure script from a gate uses, or None if there is no sure one."""
    check_gate(cave, gate)
    if not hangs_together(cave):
        return None
    k = 1
    while fewest_steps(cave, k, [gate], False, True) is None:
        k += 1
    return k


def script_from(cave, gate, k):
    """Return a sure script of fewest steps from a gate that uses k searchers at most, or None."""
    check_gate(cave, gate)
    check_number(k)
    # Without this the search would not end where k is great: one more searcher can always be set.
    if not hangs_together(cave):
        return None
    return fewest_steps(cave, k, [gate], False, True)


def best_gates(cave):
    """Return the ascending list of the gates from which the least number is least, if there is a sure script."""
    check_cave(cave)
    if not hangs_together(cave):
        return []
    least_by_gate = {gate: least_from(cave, gate) for gate in rooms_of(cave)}
    best = min(least_by_gate.values())
    return [gate for gate in least_by_gate if least_by_gate[gate] == best]
