"""The errors of the package.

The messages are fixed texts: a value that an error keeps may be too deep to be shown.
"""


class ShareError(ValueError):
    """What all errors of the package have in common."""


class BadRules(ShareError):
    """A value is not right rules."""

    def __init__(self, value):
        super().__init__("these are not right rules")
        self.value = value


class RefusingRing(ShareError):
    """Rules have a ring, so they are not sound."""

    def __init__(self, ring):
        super().__init__("the rules have a ring")
        self.ring = ring


class BadRow(ShareError):
    """A value is not a right row."""

    def __init__(self, value):
        super().__init__("this is not a right row")
        self.value = value


class BadQuestion(ShareError):
    """A value is not a question."""

    def __init__(self, value):
        super().__init__("this is not a question")
        self.value = value


class BadVersion(ShareError):
    """A value is not a version of the store."""

    def __init__(self, value):
        super().__init__("this is not a version of the store")
        self.value = value


class BadText(ShareError):
    """A value is not a text of a book or a store."""

    def __init__(self, value):
        super().__init__("this is not such a text")
        self.value = value


class BadCommand(ShareError):
    """A value is not a command."""

    def __init__(self, command):
        super().__init__("this is not a command")
        self.command = command


class TakenRow(ShareError):
    """A row that would be added is there already."""

    def __init__(self, row):
        super().__init__("this row is there already")
        self.row = row


class UnknownRow(ShareError):
    """A row that would be removed is not there."""

    def __init__(self, row):
        super().__init__("this row is not there")
        self.row = row


class TooMany(ShareError):
    """There would be more rows than a store may have."""

    def __init__(self, count):
        super().__init__("these are too many rows")
        self.count = count


class NotPlain(ShareError):
    """A book is not plain."""

    def __init__(self, place):
        super().__init__("the book is not plain")
        self.place = place


class NotSingle(ShareError):
    """A book is not single."""

    def __init__(self, place):
        super().__init__("the book is not single")
        self.place = place


class NotAlike(ShareError):
    """Two books are not alike."""

    def __init__(self, place):
        super().__init__("the books are not alike")
        self.place = place


class NotSteady(ShareError):
    """A book is not steady."""

    def __init__(self, place):
        super().__init__("the book is not steady")
        self.place = place


class BadGuard(ShareError):
    """A guard does not stand."""

    def __init__(self, number):
        super().__init__("a guard does not stand")
        self.number = number
