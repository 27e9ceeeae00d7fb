"""[13]: caves and scripts as texts."""

import unittest

from cavesweep import texts
from cavesweep.caves import is_cave
from cavesweep.errors import InvalidCave, InvalidScript, ParseError
from cavesweep.texts import format_cave, format_script, parse_cave, parse_script
from support import CAVES, FAR, GREAT, NO_CAVES, NO_SCRIPTS, ONE, PATH, STAR, THINGS, Case, random_steps, seeded

NO_STRINGS = [thing for thing in THINGS if not isinstance(thing, str)]

# Texts that are no caves, with the index of the first word that is wrong.
WRONG_CAVES = [
    ("", 0), (" ", 0), ("  ", 0), ("\n", 0), ("\t", 0), ("0", 0), ("-", 0), ("0-", 0), ("-1", 0), ("0-1-2", 0), ("0--1", 0),
    ("1-0", 0), ("0-0", 0), ("0-100", 0), ("100-101", 0), ("00-1", 0), ("0-01", 0), ("01-02", 0), ("+0-1", 0), ("0-+1", 0),
    ("-0-1", 0), ("0--1", 0), ("a-b", 0), ("0-b", 0), ("0_1", 0), ("0-1_0", 0), ("0 - 1", 0), (" 0-1", 0), ("0-1 ", 1),
    ("0-1\n", 0), ("\n0-1", 0), ("0-1\t", 0), ("0-1\t1-2", 0), ("0-1\n1-2", 0), ("0-1,1-2", 0), ("0-1  1-2", 1),
    ("0-1 0-1", 1), ("0-2 0-1", 1), ("0-1 1-2 0-3", 2), ("1-2 0-9", 1), ("0-1 1-2 1-2", 2), ("0-1 1-2 x", 2),
    ("0-1 x 0-1", 1), ("0-1 0-2 0-3 3-2", 3), ("0-1 1-2\n", 1), ("0-1 1-02", 1), ("0-1 1-2 ", 2), ("0-1  ", 1),
    ("0.0-1", 0), ("0-1.0", 0), ("1e0-2", 0), ("(0, 1)", 0), ("0x0-1", 0), ("0-\t1", 0), ("\t0-1", 0), ("0-1\t", 0),
    ("1" * 5000, 0), ("0-" + "1" * 5000, 0), ("0-1 " + "9" * 4400 + "-1", 1), ("-" * 5000, 0), ("0-1 " * 2, 1),
]

# Texts that are no scripts of the star, with the index of the first line that is no step there.
WRONG_SCRIPTS = [
    ("\n", 0), (" ", 0), ("set", 0), ("set ", 0), ("set  0", 0), (" set 0", 0), ("set 0 ", 0), ("set 0 0", 0), ("set 4", 0),
    ("set 00", 0), ("set 01", 0), ("set +0", 0), ("set -0", 0), ("set -1", 0), ("set 0\n", 1), ("set 0\n\n", 1), ("\nset 0", 0),
    ("Set 0", 0), ("put 0", 0), ("set 100", 0), ("set a", 0), ("set\t0", 0), ("set 0\t", 0), ("set 0\nset 9", 1),
    ("take 0", 0), ("set 0\ntake 1", 1), ("set 0\ntake 0\ntake 0", 2), ("take", 0), ("set 0\ntake 00", 1),
    ("set 0\ntake 0 1", 1), ("set 0\nlead 0", 1), ("set 0\nlead 0 0", 1), ("set 0\nlead 1 0", 1), ("set 1\nlead 1 2", 1),
    ("set 1\nlead 1 0\nlead 1 0", 2), ("set 0\nlead 0 1 2", 1), ("set 0\nlead 0  1", 1), ("set 0\nlead 0 01", 1),
    ("set 0\nlead 0 4", 1), ("set 0\nlead 0-1", 1), ("lead 0 1", 0), ("set 0\n\nlead 0 1", 1), ("set 0\nlead 0 1\n", 2),
    ("set 0, set 1", 0), ("set 0 set 1", 0), ("0", 0), ("0-1", 0), ("none", 0), ("set " + "0" * 5000, 0),
    ("set " + "1" * 5000, 0), ("set 0\nset 0\nset 0\nlead 0 1\nlead 0 2\nlead 0 3\nlead 0 1", 6),
    ("set 1_0", 0), ("set 1.", 0), ("set 0\r", 0),
]


class Texts(Case):
    def test_interface(self):
        self.interface(
            texts, format_cave="cave", format_script="cave steps", parse_cave="text", parse_script="cave text")

    def test_examples(self):
        self.assertEqual(
            (format_cave(((0, 1), (1, 12))), parse_cave("0-1 1-12")), ("0-1 1-12", ((0, 1), (1, 12))))
        self.assertEqual(parse_script(((0, 1),), "set 0\nlead 0 1"), [("set", 0), ("lead", 0, 1)])
        self.assertEqual(self.raises(ParseError, parse_cave, "0-1 0-1").index, 1)

    def test_caves_there_and_back(self):
        for cave in CAVES + [GREAT]:
            text = self.call(format_cave, cave)
            self.assertEqual(text, " ".join("-".join(map(str, way)) for way in cave))
            self.assertEqual(self.call(parse_cave, text), cave)
            self.assertTrue(is_cave(parse_cave(text)))
        self.assertEqual(format_cave(FAR), "0-99")
        self.assertEqual(parse_cave("9-10 10-11"), ((9, 10), (10, 11)))

    def test_scripts_there_and_back(self):
        chance = seeded(13)
        for cave in CAVES:
            steps = random_steps(chance, cave, 15)
            text = self.call(format_script, cave, steps)
            self.assertEqual(text, "\n".join(" ".join(map(str, step)) for step in steps))
            self.assertEqual(self.call(parse_script, cave, text), steps)

    def test_script_of_no_steps(self):
        self.assertEqual(self.call(format_script, ONE, []), "")
        self.assertEqual(self.call(parse_script, ONE, ""), [])

    def test_every_step(self):
        steps = [("set", 0), ("set", 0), ("take", 0), ("lead", 0, 99), ("lead", 99, 0)]
        text = "set 0\nset 0\ntake 0\nlead 0 99\nlead 99 0"
        self.assertEqual(format_script(FAR, steps), text)
        self.assertEqual(parse_script(FAR, text), steps)

    def test_wrong_caves(self):
        for text, index in WRONG_CAVES:
            self.check_index(index, parse_cave, text)

    def test_wrong_scripts(self):
        for text, index in WRONG_SCRIPTS:
            self.check_index(index, parse_script, STAR, text)

    def check_index(self, index, function, *arguments):
        error = self.raises(ParseError, function, *arguments)
        self.assertIs(type(error.index), int)
        self.assertEqual(error.index, index, repr(arguments)[:200])

    def test_no_strings(self):
        for thing in NO_STRINGS:
            self.check_index(0, parse_cave, thing)
            self.check_index(0, parse_script, STAR, thing)

    def test_strings_that_are_no_cave(self):
        for thing in THINGS:
            if isinstance(thing, str) and thing not in ("0-1", "0-1 1-2"):
                self.check_index(0, parse_cave, thing)

    def test_strings_that_are_no_script(self):
        for thing in THINGS:
            if isinstance(thing, str) and thing not in ("", "set 0"):
                self.check_index(1 if thing == "set 0\n" else 0, parse_script, STAR, thing)

    def test_no_caves(self):
        for thing in NO_CAVES:
            self.raises(InvalidCave, format_cave, thing)
            self.raises(InvalidCave, format_script, thing, [])
            self.raises(InvalidCave, parse_script, thing, "set 0")

    def test_the_first_error(self):
        for thing in NO_CAVES[::5]:
            self.raises(InvalidCave, format_script, thing, [("take", 0)])
            self.raises(InvalidCave, parse_script, thing, "take 0")
            self.raises(InvalidCave, parse_script, thing, None)
        # Both lines are wrong here, and both words: the first one counts.
        self.check_index(0, parse_script, PATH, "take 0\nnothing")
        self.check_index(0, parse_cave, "1-0 0-0")

    def test_no_scripts(self):
        for steps in NO_SCRIPTS:
            self.raises(InvalidScript, format_script, STAR, steps)

    def test_a_line_too_late(self):
        text = "\n".join(["set 0"] * 3000 + ["take 0"] * 3001)
        self.check_index(6000, parse_script, PATH, text)


if __name__ == "__main__":
    unittest.main()
