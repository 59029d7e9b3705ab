"""The errors of the package, each directly under LabelError."""


class LabelError(ValueError):
    """What all errors of this package are."""


class BadRow(LabelError):
    """A row is none, or has not the length that is wanted."""

    def __init__(self, part):
        super().__init__(f"bad row: {part!r}")
        self.part = part


class BadNumber(LabelError):
    """A number is no integer, or lies outside its bounds."""

    def __init__(self, part):
        super().__init__(f"bad number: {part!r}")
        self.part = part


class BadBook(LabelError):
    """A part of a book is wrong."""

    def __init__(self, part):
        super().__init__(f"bad part of a book: {part!r}")
        self.part = part


class NoSign(LabelError):
    """A thing is no sign, or no mark, of the book or the rule."""

    def __init__(self, sign):
        super().__init__("no such sign or mark")
        self.sign = sign


class BadText(LabelError):
    """A text is no string (-1), or has a character that is no sign."""

    def __init__(self, place):
        super().__init__(f"bad text, at place {place!r}")
        self.place = place


class BadRule(LabelError):
    """A part of a rule is wrong."""

    def __init__(self, part):
        super().__init__(f"bad part of a rule: {part!r}")
        self.part = part


class NoState(LabelError):
    """A thing is no state of the rule."""

    def __init__(self, state):
        super().__init__("no such state")
        self.state = state


class BadSums(LabelError):
    """An argument for a rule of sums is wrong."""

    def __init__(self, part):
        super().__init__(f"bad part of a rule of sums: {part!r}")
        self.part = part


class OtherSigns(LabelError):
    """Two rules have unlike signs."""


class TooMany(LabelError):
    """There are more of the things asked for than the most that may be."""

    def __init__(self, most):
        super().__init__(f"more than {most!r}")
        self.most = most


class BadKind(LabelError):
    """A thing is none of the kinds."""


class BadWear(LabelError):
    """Moves are no wear: where the first wrong one stands."""

    def __init__(self, state, index):
        super().__init__(f"bad wear, at standing place {state!r}, index {index!r}")
        self.state = state
        self.index = index


class BadWindow(LabelError):
    """A part of a window is wrong."""

    def __init__(self, part):
        super().__init__(f"bad part of a window: {part!r}")
        self.part = part


class BadReader(LabelError):
    """A part of a reader is wrong."""

    def __init__(self, part):
        super().__init__(f"bad part of a reader: {part!r}")
        self.part = part


class BadChain(LabelError):
    """A part of a chain is wrong, or does not fit the others."""

    def __init__(self, part):
        super().__init__(f"bad part of a chain: {part!r}")
        self.part = part


class NoText(LabelError):
    """A thing is no text that is wanted here."""


class TooWide(LabelError):
    """A chain has too many standings to be looked through."""


class NoStanding(LabelError):
    """A thing is no standing of the chain."""


class NotPlain(LabelError):
    """A wear is not plain."""


class BadList(LabelError):
    """A list is none (-1), or has a wrong item."""

    def __init__(self, index):
        super().__init__(f"bad list, at index {index!r}")
        self.index = index


class NoLine(LabelError):
    """A line has none of the forms that the desk knows."""


class NoName(LabelError):
    """A name stands for no thing of the wanted class."""

    def __init__(self, name):
        super().__init__("the name stands for no such thing")
        self.name = name


class NoUndo(LabelError):
    """There is no line that could be taken back."""
