"""The errors that the program raises."""


class CaveError(ValueError):
    """The base of all errors of the program."""


class ParseError(CaveError):
    """A text is wrong; the index tells at which of its words or lines."""

    def __init__(self, index):
        super().__init__(f"wrong at index {index}")
        self.index = index


class CannotBe(CaveError):
    """A step can not come where it is to come."""


class DuplicateName(CaveError):
    """A name is there already."""


class InvalidBook(CaveError):
    """An object is no book."""


class InvalidBool(CaveError):
    """An object is no bool."""


class InvalidCave(CaveError):
    """An object is no cave."""


class InvalidKind(CaveError):
    """An object is no kind of script."""


class InvalidLabel(CaveError):
    """An object is no list of labels."""


class InvalidLine(CaveError):
    """An object is no line of the shell."""


class InvalidLot(CaveError):
    """An object is no lot of the cave."""


class InvalidName(CaveError):
    """A word is no name."""


class InvalidNumber(CaveError):
    """An object is no such number as is asked for."""


class InvalidOrder(CaveError):
    """An object is no order of the cave."""


class InvalidRoom(CaveError):
    """An object is no room of the cave."""


class InvalidRow(CaveError):
    """An object is no row of bags of the cave."""


class InvalidScript(CaveError):
    """An object is no script of the cave."""


class InvalidSweep(CaveError):
    """An object is no sweep of the cave."""


class InvalidTree(CaveError):
    """An object is no tree."""


class InvalidWay(CaveError):
    """An object is no such way as is asked for."""


class NothingToRedo(CaveError):
    """No step can be done again."""


class NothingToUndo(CaveError):
    """No step can be taken back."""


class UnknownCave(CaveError):
    """No cave has the name."""


class UnknownName(CaveError):
    """The book does not have the name."""
