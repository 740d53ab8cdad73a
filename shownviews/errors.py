"""The errors that the package raises; each keeps what it was made with in the attributes named."""


class ViewError(ValueError):
    """The base of all errors of the package; those without a field are made with nothing."""

    def __init__(self):
        """Keeps nothing."""


class BadDeed(ViewError):
    """What is to be done in a world is no deed, or can not be done."""


class BadDisk(ViewError):
    """A disk can not be made so: part is "areas" or "room"."""

    def __init__(self, part):
        self.part = part


class BadKept(ViewError):
    """What is kept of a fallen disk is not told rightly for an area."""

    def __init__(self, area):
        self.area = area


class BadStore(ViewError):
    """An entry of a house's store is none, or can not be done."""

    def __init__(self, index):
        self.index = index


class BadText(ViewError):
    """A text can not be read from a place on."""

    def __init__(self, place):
        self.place = place


class Barred(ViewError):
    """A name tells nothing, and bar says why."""

    def __init__(self, bar):
        self.bar = bar


class Down(ViewError):
    """What fell is no use any more."""


class Full(ViewError):
    """An area of a disk has not so much room."""

    def __init__(self, area):
        self.area = area


class Here(ViewError):
    """A fact is in the tree already."""


class NoArea(ViewError):
    """A disk has no such area."""


class NoBook(ViewError):
    """A thing is no book of rules of the schema."""


class NoClosed(ViewError):
    """A thing is no closed lot for the question."""


class NoDeed(ViewError):
    """A thing is no deed of the schema."""


class NoEdit(ViewError):
    """A thing is no edit of the schema."""


class NoFact(ViewError):
    """A thing is no fact."""


class NoFacts(ViewError):
    """A thing is no lot of facts as it must be here."""


class NoLetter(ViewError):
    """A thing is no letter for this house."""


class NoLife(ViewError):
    """A thing is no life."""


class NoLine(ViewError):
    """A thing is no line of a desk."""


class NoLot(ViewError):
    """A thing is no lot of places of the head."""


class NoMark(ViewError):
    """A thing is no mark, or not one that is held here."""


class NoName(ViewError):
    """A thing is no name, or none of the schema."""


class NoNumber(ViewError):
    """A thing is not a number as it must be here."""


class NoPattern(ViewError):
    """A thing is no pattern."""


class NoPlan(ViewError):
    """A thing is no plan for the book."""


class NoPrime(ViewError):
    """A thing is no number by which texts are mixed."""


class NoRoot(ViewError):
    """A thing is no root."""


class NoRow(ViewError):
    """A thing is no row."""


class NoRows(ViewError):
    """A thing is no list or tuple of rows."""


class NoRule(ViewError):
    """A thing is no rule."""


class NoSchema(ViewError):
    """A thing is no schema."""


class NoShowing(ViewError):
    """A thing is no showing of a tree."""


class NoStore(ViewError):
    """No area of the disk holds a generation."""


class NoStretch(ViewError):
    """A thing is no stretch, or no tuple of them."""


class NoTables(ViewError):
    """A thing is not the tables of the schema."""


class NoText(ViewError):
    """A thing is no text as it must be here."""


class NoThing(ViewError):
    """An object is nothing that can be packed."""


class NoView(ViewError):
    """A thing is not what a view stands for."""


class NotHere(ViewError):
    """A fact is not in the tree."""


class NotYet(ViewError):
    """Edits are lacking, and lacking tells which."""

    def __init__(self, lacking):
        self.lacking = lacking


class OtherPrime(ViewError):
    """Two trees are mixed by unlike numbers."""


class OtherSchema(ViewError):
    """Two states are not of one schema."""


class TooMany(ViewError):
    """There are more than so many."""

    def __init__(self, most):
        self.most = most


class TooSmall(ViewError):
    """An area has no room for what must stand there."""


class Unsafe(ViewError):
    """A rule is not safe."""
