"""Live caves, which are searched step by step."""

from cavesweep.caves import check_cave
from cavesweep.errors import CannotBe, InvalidWay, NothingToUndo
from cavesweep.scripts import Play


class Live:
    """A cave with a script to which steps come and from which the last one can be taken back."""

    def __init__(self, cave):
        check_cave(cave)
        self._play = Play(cave)

    @property
    def steps(self):
        """The script: the list of the steps that came."""
        return self._play.done_steps()

    @property
    def searchers(self):
        """The ascending list of the rooms where searchers are, for each searcher one."""
        return self._play.searcher_rooms()

    @property
    def foul(self):
        """The ascending list of the foul ways."""
        return self._play.foul_ways()

    @property
    def most(self):
        """How many searchers the script uses."""
        return self._play.greatest

    def __len__(self):
        """Return the number of steps."""
        return len(self._play.past)

    def _come(self, step):
        """Let a step come, or raise CannotBe, for any object."""
        if not self._play.can_do(step):
            raise CannotBe("the step can not be")
        self._play.do(step)

    def place(self, room):
        """Set a searcher at a room."""
        self._come(("set", room))

    def take(self, room):
        """Take a searcher up from a room."""
        self._come(("take", room))

    def lead(self, room, other):
        """Lead a searcher from a room to another one."""
        self._come(("lead", room, other))

    def can_hide(self, way):
        """Return whether somebody who was never met can be on a way."""
        if not self._play.has_way(way):
            raise InvalidWay("this is no way of the cave")
        # Whoever is never met can be on just the foul ways.
        return self._play.is_foul[way]

    def undo(self):
        """Take the last step back."""
        if len(self) == 0:
            raise NothingToUndo("there is no step")
        self._play.undo()

    def copy(self):
        """Return an independent live cave in the same state."""
        other = Live(tuple(self._play.is_foul))
        other._play = self._play.copy()
        return other
