"""Ways to shut, so that a number of searchers is enough for the rest of a cave."""

from cavesweep.caves import check_cave
from cavesweep.checks import check_number
from cavesweep.least import reached


def are_enough(ways, k):
    """Return whether k searchers are enough for an ascending tuple of ways, perhaps none."""
    # They are if one comes to the lot of all ways: where no way is left, to the empty one.
    return ways in reached(ways, k)


def least_shut(cave, k):
    """Return the ascending list of the lists of ways without which, and not without fewer of them, k are enough."""
    check_cave(cave)
    check_number(k)
    bit_of = {way: 1 << at for at, way in enumerate(cave)}
    shut = []
    # Some of the bits of a number are always a lesser number: they have had their turn.
    for bits in range(1 << len(cave)):
        if not any([(bits & fewer) == fewer for fewer in shut]):
            if are_enough(tuple([way for way in cave if (bits & bit_of[way]) == 0]), k):
                shut.append(bits)
    return sorted([[way for way in cave if bits & bit_of[way]] for bits in shut])
