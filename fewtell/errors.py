"""The errors of the package, one class for each kind of failure."""

from fewtell.kinds import copied


class FewError(ValueError):
    """The base class of the errors about what was passed."""


class InvalidName(FewError):
    """A value that is no name."""

    def __init__(self, name):
        self.name = copied(name)
        self.code = "InvalidName"


class InvalidPart(FewError):
    """A row that is no part of a world."""

    def __init__(self, index):
        self.index = copied(index)
        self.code = "InvalidPart"


class InvalidTrait(FewError):
    """A row that is no trait of a world."""

    def __init__(self, index):
        self.index = copied(index)
        self.code = "InvalidTrait"


class InvalidPerson(FewError):
    """A value that is no person, or no node."""

    def __init__(self, given):
        self.given = copied(given)
        self.code = "InvalidPerson"


class InvalidEntry(FewError):
    """A value that is not the people of an entry."""

    def __init__(self, given):
        self.given = copied(given)
        self.code = "InvalidEntry"


class InvalidNumber(FewError):
    """A value that is no number for an entry."""

    def __init__(self, given):
        self.given = copied(given)
        self.code = "InvalidNumber"


class InvalidRow(FewError):
    """An item of a list that is not of the form of its rows."""

    def __init__(self, index):
        self.index = copied(index)
        self.code = "InvalidRow"


class InvalidProgram(FewError):
    """A part of a program that is not of the form of one."""

    def __init__(self, path):
        self.path = copied(path)
        self.code = "InvalidProgram"


class TooWide(FewError):
    """More people in a web than the most that are allowed."""

    def __init__(self, most):
        self.most = copied(most)
        self.code = "TooWide"


class TooLarge(FewError):
    """A greater degree than the most that is allowed."""

    def __init__(self, most):
        self.most = copied(most)
        self.code = "TooLarge"


class TooMany(FewError):
    """More items than the most that are allowed."""

    def __init__(self, most):
        self.most = copied(most)
        self.code = "TooMany"


class InvalidWeb(FewError):
    """A value that is no web."""

    def __init__(self, given):
        self.given = copied(given)
        self.code = "InvalidWeb"


class InvalidWave(FewError):
    """A row that is no wave of a plan."""

    def __init__(self, index):
        self.index = copied(index)
        self.code = "InvalidWave"


class InvalidSight(FewError):
    """A row that is no sight of a plan."""

    def __init__(self, index):
        self.index = copied(index)
        self.code = "InvalidSight"


class UnlikeWorlds(FewError):
    """Things of different worlds, or of different plans."""

    def __init__(self):
        self.code = "UnlikeWorlds"


class HasWishes(FewError):
    """A form with wishes where none are allowed."""

    def __init__(self):
        self.code = "HasWishes"


class Unseen(FewError):
    """A web or an entry that is not sure to be seen."""

    def __init__(self, web):
        self.web = copied(web)
        self.code = "Unseen"


class Barred(FewError):
    """A web whose chance of sight is 0."""

    def __init__(self, web):
        self.web = copied(web)
        self.code = "Barred"


class NotSquare(FewError):
    """A form that is not square in a trait."""

    def __init__(self):
        self.code = "NotSquare"


class NotBelow(FewError):
    """Forms of which no ratio can be told."""

    def __init__(self):
        self.code = "NotBelow"


class InvalidDrawing(FewError):
    """A row that is no wave of a drawing."""

    def __init__(self, index):
        self.index = copied(index)
        self.code = "InvalidDrawing"


class NotTold(FewError):
    """An entry that was not told."""

    def __init__(self, given):
        self.given = copied(given)
        self.code = "NotTold"


class DuplicateName(FewError):
    """A name that is already taken."""

    def __init__(self, name):
        self.name = copied(name)
        self.code = "DuplicateName"


class InvalidText(FewError):
    """A text that is not that of a program."""

    def __init__(self, position):
        self.position = copied(position)
        self.code = "InvalidText"


class InvalidPage(FewError):
    """A text that is not the page of a plan."""

    def __init__(self, line):
        self.line = copied(line)
        self.code = "InvalidPage"


class Missing(LookupError):
    """The base class of the errors about what is not there."""


class UnknownName(Missing):
    """A name that is not known."""

    def __init__(self, name):
        self.name = copied(name)
        self.code = "UnknownName"


class NothingLeft(IndexError):
    """No step is left to be undone or redone."""

    def __init__(self):
        self.code = "NothingLeft"
