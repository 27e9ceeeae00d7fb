"""Watches: caves that are searched step by step with lamps or by mixed scripts, with steps to do again."""

from cavesweep.caves import check_cave
from cavesweep.errors import CannotBe, InvalidKind, NothingToRedo, NothingToUndo
from cavesweep.scripts import Play

KINDS = ("lamps", "mixed")


class Watch:
    """A cave with a script of lamps or a mixed one, whose steps can be taken back and done again."""

    def __init__(self, cave, kind):
        check_cave(cave)
        if kind not in KINDS:
            raise InvalidKind("this is no kind of a watch")
        self._play = Play(cave, kind)
        # The steps that were taken back, the last one taken back at the end.
        self._undone = []

    @property
    def kind(self):
        """The kind of the script."""
        return self._play.manner

    @property
    def steps(self):
        """The script: the list of the steps that stand."""
        return self._play.done_steps()

    @property
    def searchers(self):
        """The ascending list of the rooms where searchers are, for each searcher one."""
        return self._play.searcher_rooms()

    @property
    def foul(self):
        """The ascending list of the foul ways."""
        return self._play.foul_ways()

    @property
    def needed(self):
        """The ascending list of the rooms at which clean and foul ways end."""
        return self._play.border_rooms()

    @property
    def most(self):
        """How many searchers the script uses."""
        return self._play.greatest

    def __len__(self):
        """Return the number of steps that stand."""
        return len(self._play.past)

    def _come(self, step):
        """Let a step come, or raise CannotBe, for any object."""
        if not self._play.can_do(step):
            raise CannotBe("the step can not be")
        self._play.do(step)
        self._undone = []

    def place(self, room):
        """Set a searcher at a room."""
        self._come(("set", room))

    def take(self, room):
        """Take a searcher up from a room."""
        self._come(("take", room))

    def lead(self, room, other):
        """Lead a searcher from a room to another one."""
        self._come(("lead", room, other))

    def undo(self):
        """Take the last step that stands back."""
        if len(self) == 0:
            raise NothingToUndo("there is no step")
        self._undone.append(self._play.undo())

    def redo(self):
        """Do the step again that was taken back last."""
        if not self._undone:
            raise NothingToRedo("there is no step to do again")
        self._play.do(self._undone.pop())

    def copy(self):
        """Return an independent watch in the same state, with the same steps to take back and to do again."""
        other = Watch(tuple(self._play.is_foul), self.kind)
        other._play = self._play.copy()
        other._undone = list(self._undone)
        return other
