"""A shell: live caves by name, and lines that search them."""

from cavesweep.checks import is_name
from cavesweep.errors import DuplicateName, InvalidLine, InvalidName, UnknownCave
from cavesweep.live import Live
from cavesweep.texts import parse_cave, read_room, way_text

# How many words a line has, by its first one.
WORDS = {
    "open": 3, "close": 2, "set": 3, "take": 3, "lead": 4, "foul": 2, "searchers": 2, "steps": 2, "undo": 2, "caves": 1,
}

# The first words of the lines that ask a live cave, and change nothing.
QUESTIONS = ("foul", "searchers", "steps")


def words_of(line):
    """Return the words of a line; raise InvalidLine, for any object."""
    if type(line) is not str or "\n" in line:
        raise InvalidLine("this is no line")
    words = line.split(" ")
    if "" in words or WORDS.get(words[0]) != len(words):
        raise InvalidLine("this is no such line")
    return words


def listed(texts):
    """Return the answer that tells of some texts, perhaps none."""
    return " ".join(texts) if texts else "none"


def told(live, question):
    """Return the answer to a question about a live cave."""
    if question == "foul":
        return listed([way_text(way) for way in live.foul])
    if question == "searchers":
        return listed([str(room) for room in live.searchers])
    return str(len(live))


def change(live, word, rooms):
    """Let a step come to a live cave, or take the last one back."""
    if word == "set":
        live.place(rooms[0])
    elif word == "take":
        live.take(rooms[0])
    elif word == "lead":
        live.lead(rooms[0], rooms[1])
    else:
        live.undo()


class Shell:
    """Live caves by name."""

    def __init__(self):
        self._caves = {}

    def run(self, line):
        """Execute a line and return the answer."""
        words = words_of(line)
        word = words[0]
        if word == "caves":
            return listed(sorted(self._caves))
        name = words[1]
        if word == "open":
            self._start(name, words[2])
            return "ok"
        if name not in self._caves:
            raise UnknownCave("no cave has the name")
        if word == "close":
            del self._caves[name]
            return "ok"
        live = self._caves[name]
        if word in QUESTIONS:
            return told(live, word)
        change(live, word, [read_room(text) for text in words[2:]])
        return "ok"

    def _start(self, name, text):
        """Put a new live cave under a name."""
        if not is_name(name):
            raise InvalidName("this is no name")
        if name in self._caves:
            raise DuplicateName("a cave has the name")
        self._caves[name] = Live(parse_cave(text.replace(",", " ")))
