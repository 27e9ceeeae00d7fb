"""[26]: the shell."""

import inspect
import unittest

from cavesweep import shell as module
from cavesweep.errors import CannotBe, DuplicateName, InvalidLine, InvalidName, NothingToUndo, ParseError, UnknownCave
from cavesweep.scripts import can_be, left_by
from cavesweep.shell import Shell
from cavesweep.texts import format_cave
from support import CAVES, FAR, GREAT, PARTS, PATH, RING, STAR, THINGS
from support import Case, seeded, told

EXAMPLES = """
>>> from cavesweep.shell import Shell
>>> shell = Shell()
>>> [shell.run(line) for line in ['open main 0-1,1-2', 'set main 0', 'lead main 0 1', 'foul main', 'searchers main', 'undo main', 'foul main', 'caves']]
['ok', 'ok', 'ok', '1-2', '1', 'ok', '0-1 1-2', 'main']
"""

NAMES = ["a", "b", "main", "zz", "abcdefgh", "open", "caves", "none"]

# Lines with the right first words that are no lines, whatever names there are.
NO_LINES = [
    "", " ", "  ", "\n", "\t", "open", "close", "set", "take", "lead", "foul", "searchers", "steps", "undo", "open main", "set main",
    "take main", "lead main", "lead main 0", "open main 0-1 1-2", "close main main", "set main 0 1", "take main 0 0",
    "lead main 0 1 2", "foul main main", "searchers main 0", "steps main 1", "undo main 1", "caves main", "caves ", " caves", "caves  ",
    "caves\n", "\ncaves", "foul main ", " foul main", "foul  main", "foul main\n", "foul\nmain", "foul\tmain", "foul main\tmain\n",
    "set main  0", "set  main 0", "set main 0 ", " set main 0", "set main\t0", "set main 0\n", "set\tmain 0", "set main", "set main ",
    "open main  0-1", "open main 0-1 ", "open main 0-1\n", "open main 0-1,\n", "open main 0-1, 1-2", "open main 0-1 ,1-2", "Open main 0-1",
    "OPEN main 0-1", "Caves", "cave", "cavess", "place main 0", "copy main", "most main", "redo main", "quit", "main", "main foul", "0-1",
    "open,main,0-1", "set,main,0", "caves\t", "\tcaves", "\tfoul main", "foul\t main", "none", "ok", "lead main  0 1", "lead main 0\n1",
    "set main 0\nset main 0", "undo main\n", "steps\n main", "close", "close ", "close  main", "search main", "hide main 0-1",
]

NO_NAMES = [
    "Main", "MAIN", "main1", "1", "ninechars", "abcdefghi", "a_b", "a-b", "a,b", "a.b", "a\t", "\ta", "\t", "main\t", "-", "0-1", "a" * 9000,
    "'a'", "~", "mA", "!", "aaaaaaaaa", ",",
]

# Texts of caves with "," in place of spaces that are none, with the index of the first word that is wrong.
NO_CAVE_TEXTS = [
    (",", 0), (",,", 0), (",0-1", 0), ("0-1,", 1), ("0-1,,1-2", 1), ("0-1,1-2,", 2), ("0-1,0-1", 1), ("0-2,0-1", 1), ("1-0", 0), ("0-0", 0),
    ("0-100", 0), ("00-1", 0), ("0-01", 0), ("0-1,1-02", 1), ("0", 0), ("-", 0), ("0-1-2", 0), ("x", 0), ("0-1,x", 1), ("0-1,1-2,x,y", 2),
    ("0-1\t", 0), ("0-1,\t", 1), ("\t", 0), ("0-1\t1-2", 0), ("0-1;1-2", 0), ("main", 0), ("+0-1", 0), ("0-1,1-2,1-2", 2), ("0-1,-", 1),
    ("1" * 9000, 0), ("0-1," * 2000, 1), ("none", 0), ("0-1,1-+2", 1), ("0--1", 0),
]

# Words that are no rooms of the star, where a searcher is at each of its rooms.
NO_ROOMS = [
    "4", "99", "100", "-1", "00", "01", "+1", "a", "0-1", "\t", "0\t", "\t0", "1.0", "0,1", "0,", ",", "1_0", "None", "none", "x" * 9000,
    "1" * 9000, "0x0", "1e0", "-0", "000",
]


class Plain:
    """A shell with a cave and a list of steps for each name, and the functions of the stages ahead."""

    def __init__(self):
        self.caves = {}

    def answer(self, line):
        """The answer to a line, or the class of the error."""
        words = line.split(" ")
        word, rest = words[0], words[1:]
        if word == "caves":
            return " ".join(sorted(self.caves)) or "none"
        if word == "open":
            if rest[0] in self.caves:
                return DuplicateName
            self.caves[rest[0]] = (tuple(tuple(map(int, way.split("-"))) for way in rest[1].split(",")), [])
            return "ok"
        if rest[0] not in self.caves:
            return UnknownCave
        cave, steps = self.caves[rest[0]]
        if word == "close":
            del self.caves[rest[0]]
        elif word == "steps":
            return str(len(steps))
        elif word == "foul":
            return " ".join("-".join(map(str, way)) for way in left_by(cave, steps)[1]) or "none"
        elif word == "searchers":
            return " ".join(map(str, left_by(cave, steps)[0])) or "none"
        elif word == "undo":
            if not steps:
                return NothingToUndo
            steps.pop()
        else:
            step = (word, *map(int, rest[1:]))
            if not can_be(cave, steps, step):
                return CannotBe
            steps.append(step)
        return "ok"


def commas(cave):
    return format_cave(cave).replace(" ", ",")


class Shells(Case):
    def test_interface(self):
        self.assertEqual(str(inspect.signature(Shell)), "()")
        self.assertEqual(list(inspect.signature(vars(Shell)["run"]).parameters), ["self", "line"])
        self.assertEqual(Shell.__module__, module.__name__)

    def test_examples(self):
        self.has_examples(module, EXAMPLES)

    def state(self, shell):
        """All that a shell tells."""
        names = shell.run("caves")
        answers = [names]
        for name in [] if names == "none" else names.split(" "):
            answers += [shell.run(f"{word} {name}") for word in ("foul", "searchers", "steps")]
        return answers

    def refuses(self, error, shell, line):
        before = self.state(shell)
        caught = self.raises(error, shell.run, line)
        self.assertEqual(self.state(shell), before)
        return caught

    def check(self, shell, line, answer):
        if isinstance(answer, str):
            found = shell.run(line)
            self.assertIs(type(found), str)
            self.assertEqual(found, answer, line)
        else:
            self.refuses(answer, shell, line)

    def star(self, *lines):
        """A shell with the star by the name main."""
        shell = Shell()
        for line in ("open main 0-1,0-2,0-3",) + lines:
            self.assertEqual(shell.run(line), "ok")
        return shell

    def test_every_line(self):
        shell = Shell()
        rows = [
            ("caves", "none"), ("open main 0-1,0-2,0-3", "ok"), ("caves", "main"), ("foul main", "0-1 0-2 0-3"), ("searchers main", "none"),
            ("steps main", "0"), ("set main 1", "ok"), ("set main 0", "ok"), ("set main 0", "ok"), ("searchers main", "0 0 1"),
            ("lead main 1 0", "ok"), ("foul main", "0-2 0-3"), ("searchers main", "0 0 0"), ("steps main", "4"), ("lead main 0 2", "ok"),
            ("lead main 0 3", "ok"), ("foul main", "none"), ("searchers main", "0 2 3"), ("take main 0", "ok"), ("foul main", "none"),
            ("steps main", "7"), ("undo main", "ok"), ("steps main", "6"), ("undo main", "ok"), ("foul main", "0-3"),
            ("searchers main", "0 0 2"), ("open b 0-99", "ok"), ("caves", "b main"), ("foul b", "0-99"), ("set b 99", "ok"),
            ("close main", "ok"), ("caves", "b"), ("searchers b", "99"), ("close b", "ok"), ("caves", "none"),
        ]
        for line, answer in rows:
            self.check(shell, line, answer)
        self.assertEqual(Shell().run(line="caves"), "none")

    def test_random_lines(self):
        chance = seeded(261)
        caves = [STAR, PATH, RING, PARTS, FAR]
        for _ in range(25):
            shell, plain = Shell(), Plain()
            for _ in range(150):
                word = chance.choice(("open", "close", "set", "set", "take", "lead", "lead", "lead", "foul", "searchers", "steps", "undo", "caves"))
                line = word if word == "caves" else f"{word} {chance.choice(NAMES[:4])}"
                if word == "open":
                    line += " " + commas(chance.choice(caves))
                if word in ("set", "take", "lead"):
                    line += f" {chance.choice((0, 1, 2, 3, 7, 99))}"
                if word == "lead":
                    line += f" {chance.choice((0, 1, 2, 3, 7, 99))}"
                self.check(shell, line, plain.answer(line))

    def test_caves_of_all_kinds(self):
        shell = Shell()
        for cave in CAVES + [GREAT]:
            self.check(shell, f"open cave {commas(cave)}", "ok")
            self.check(shell, "foul cave", format_cave(cave))
            self.check(shell, "close cave", "ok")

    def test_several_caves_at_once(self):
        shell = Shell()
        for name in NAMES[::-1]:
            self.check(shell, f"open {name} 0-1,1-2", "ok")
        self.check(shell, "caves", " ".join(sorted(NAMES)))
        for at, name in enumerate(NAMES):
            for _ in range(at):
                self.check(shell, f"set {name} {at % 3}", "ok")
        for at, name in enumerate(NAMES):
            self.check(shell, f"steps {name}", str(at))
            self.check(shell, f"searchers {name}", " ".join([str(at % 3)] * at) or "none")
        other = Shell()
        self.check(other, "caves", "none")
        self.refuses(UnknownCave, other, "foul main")

    def test_closed_and_opened_again(self):
        shell = self.star("set main 0")
        self.refuses(DuplicateName, shell, "open main 0-1")
        self.check(shell, "close main", "ok")
        self.refuses(UnknownCave, shell, "close main")
        self.refuses(UnknownCave, shell, "steps main")
        self.check(shell, "open main 5-6", "ok")
        self.assertEqual(self.state(shell), ["main", "5-6", "none", "0"])
        self.refuses(NothingToUndo, shell, "undo main")

    def test_no_lines(self):
        for shell in (Shell(), self.star("set main 0")):
            for line in NO_LINES:
                self.refuses(InvalidLine, shell, line)
            for thing in THINGS:
                self.refuses(InvalidLine, shell, thing)
            for thing in (["caves"], ("caves",), {"caves": 1}, b"caves", ["foul", "main"], ("foul", "main"), None, 0, True):
                self.refuses(InvalidLine, shell, thing)

    def test_lines_ahead_of_all_other_errors(self):
        shell = self.star()
        for line in ("open Main 0-1 ", "open main 0-1\n", "open main", "foul other ", "set other", "undo other main", "set main x\n", "open x y z"):
            self.refuses(InvalidLine, shell, line)

    def test_no_names(self):
        shell = self.star()
        for name in NO_NAMES:
            self.refuses(InvalidName, shell, f"open {name} 0-1")
            self.refuses(InvalidName, shell, f"open {name} wrong")
            # No cave has such a name: elsewhere it is unknown.
            self.refuses(UnknownCave, shell, f"foul {name}")
            self.refuses(UnknownCave, shell, f"set {name} 0")
        self.check(shell, "open abcdefgh 0-1", "ok")
        self.check(shell, "open z 0-1", "ok")

    def test_duplicate_names(self):
        shell = self.star()
        for text in ("0-1", "0-1,0-2,0-3", "wrong", ",", "0-1,"):
            self.refuses(DuplicateName, shell, f"open main {text}")

    def test_texts_that_are_no_caves(self):
        shell = self.star()
        for text, index in NO_CAVE_TEXTS:
            error = self.refuses(ParseError, shell, f"open other {text}")
            self.assertIs(type(error.index), int)
            self.assertEqual(error.index, index, text[:50])
        self.check(shell, "caves", "main")

    def test_unknown_caves(self):
        for shell in (Shell(), self.star()):
            for line in (
                    "close other", "set other 0", "set other x", "take other 0", "take other 01", "lead other 0 1", "lead other x y",
                    "foul other", "searchers other", "steps other", "undo other", "foul mai", "foul mainn", "foul Main", "close caves",
                    "foul main\t", "undo \tmain", "steps 0", "steps -"):
                self.refuses(UnknownCave, shell, line)

    def test_what_cannot_be(self):
        shell = self.star("set main 0", "set main 1", "set main 2", "set main 3")
        for word in NO_ROOMS:
            for line in (f"set main {word}", f"take main {word}", f"lead main {word} 0", f"lead main 0 {word}", f"lead main {word} {word}"):
                self.refuses(CannotBe, shell, line)
        for line in ("lead main 0 0", "lead main 1 2", "lead main 1 1", "lead main 3 1"):
            self.refuses(CannotBe, shell, line)
        shell = self.star("set main 0")
        for line in ("take main 1", "lead main 1 0", "lead main 2 0", "set main 4"):
            self.refuses(CannotBe, shell, line)
        self.check(shell, "take main 0", "ok")
        self.refuses(CannotBe, shell, "take main 0")

    def test_nothing_to_undo(self):
        shell = self.star("set main 0", "lead main 0 1", "undo main", "undo main")
        self.refuses(NothingToUndo, shell, "undo main")
        self.assertEqual(self.state(shell), ["main", "0-1 0-2 0-3", "none", "0"])

    def test_words_of_lines_as_names(self):
        shell = Shell()
        for name in ("open", "set", "foul", "caves", "none", "ok"):
            self.check(shell, f"open {name} 0-1", "ok")
            self.check(shell, f"set {name} 0", "ok")
            self.check(shell, f"searchers {name}", "0")

    def test_a_tab_is_part_of_a_word(self):
        shell = self.star()
        self.refuses(InvalidName, shell, "open a\tb 0-1")
        self.refuses(ParseError, shell, "open ab 0-1\t,1-2")
        self.refuses(UnknownCave, shell, "foul \t")
        self.refuses(CannotBe, shell, "set main \t")

    def test_long_rows(self):
        shell = self.star()
        for _ in range(2000):
            shell.run("set main 1")
        self.check(shell, "steps main", "2000")
        self.check(shell, "searchers main", " ".join(["1"] * 2000))
        for _ in range(2000):
            shell.run("undo main")
        self.assertEqual(told(self.state(shell)), told(["main", "0-1 0-2 0-3", "none", "0"]))


if __name__ == "__main__":
    unittest.main()
