"""Caves and scripts as texts."""

from cavesweep.caves import check_cave, is_way
from cavesweep.errors import ParseError
from cavesweep.scripts import Play, played


def way_text(way):
    """Return how a way is written."""
    return f"{way[0]}-{way[1]}"


def step_text(step):
    """Return how a step is written."""
    return " ".join([str(part) for part in step])


def format_cave(cave):
    """Return the text of a cave."""
    check_cave(cave)
    return " ".join([way_text(way) for way in cave])


def format_script(cave, steps):
    """Return the text of a script."""
    played(cave, steps)
    return "\n".join([step_text(step) for step in steps])


def read_room(word):
    """Return the room that a word tells, or None."""
    # Long words go first: Python does not read a number of very many digits.
    if len(word) > 2 or not word.isdecimal():
        return None
    room = int(word)
    return room if str(room) == word else None


def read_way(word):
    """Return the way that a word tells, or None."""
    way = tuple([read_room(part) for part in word.split("-")])
    return way if is_way(way) else None


def read_step(line):
    """Return what a line tells as a tuple, be it a step or not."""
    words = line.split(" ")
    return tuple([words[0]] + [read_room(word) for word in words[1:]])


def parse_cave(text):
    """Return the cave that has a text; raise ParseError, for any object."""
    if type(text) is not str:
        raise ParseError(0)
    ways = []
    for at, word in enumerate(text.split(" ")):
        way = read_way(word)
        if way is None or (at > 0 and ways[-1] >= way):
            raise ParseError(at)
        ways.append(way)
    return tuple(ways)


def parse_script(cave, text):
    """Return the script that has a text; raise InvalidCave, ParseError, for any objects."""
    check_cave(cave)
    if type(text) is not str:
        raise ParseError(0)
    steps = []
    if text == "":
        return steps
    play = Play(cave)
    for at, line in enumerate(text.split("\n")):
        step = read_step(line)
        if not play.can_do(step):
            raise ParseError(at)
        play.do(step)
        steps.append(step)
    return steps
