"""The errors of the package."""


class RuleError(ValueError):
    """The base of the errors about wrong values."""


class BadText(RuleError):
    """A text that cannot be read, with the index of its first wrong line."""

    def __init__(self, line, why):
        super().__init__(f"line {line} of the text is wrong: {why}")
        self.line = line
        self.why = why
        self.code = "BadText"


class BadName(RuleError):
    """A string that is no name."""

    def __init__(self, name):
        super().__init__(f"no name: {name}")
        self.name = name
        self.code = "BadName"


class BadLetters(RuleError):
    """Letters with a wrong part, or without parts."""

    def __init__(self, at):
        super().__init__(f"the part {at} of the letters is wrong")
        self.at = at
        self.code = "BadLetters"


class BadRun(RuleError):
    """An item that is no run over the letters."""

    def __init__(self, at):
        super().__init__(f"the item {at} is no run")
        self.at = at
        self.code = "BadRun"


class BadColumn(RuleError):
    """A tuple that is no column."""

    def __init__(self, column):
        super().__init__(f"no column: {column}")
        self.column = column
        self.code = "BadColumn"


class BadNumber(RuleError):
    """A value that lies outside of what is allowed."""

    def __init__(self, value):
        super().__init__(f"not allowed: {value}")
        self.value = value
        self.code = "BadNumber"


class BadTable(RuleError):
    """A list with a wrong item, or of a wrong length."""

    def __init__(self, at):
        super().__init__(f"the item {at} of the list is wrong")
        self.at = at
        self.code = "BadTable"


class BadDeed(RuleError):
    """A tuple that is no deed, no question or no answer."""

    def __init__(self):
        super().__init__("no deed, question or answer")
        self.code = "BadDeed"


class UnlikeParts(RuleError):
    """Two texts of letters that should be equal."""

    def __init__(self, one, other):
        super().__init__(f"the letters differ: {one} and {other}")
        self.one = one
        self.other = other
        self.code = "UnlikeParts"


class UnlikeTapes(RuleError):
    """Two numbers of tapes that should be equal."""

    def __init__(self, one, other):
        super().__init__(f"the tapes differ: {one} and {other}")
        self.one = one
        self.other = other
        self.code = "UnlikeTapes"


class TooMany(RuleError):
    """More of something than is allowed."""

    def __init__(self, what, found):
        super().__init__(f"too many {what}: {found}")
        self.what = what
        self.found = found
        self.code = "TooMany"


class HeldTwice(RuleError):
    """An item that is held already."""

    def __init__(self, item):
        super().__init__(f"held twice: {item}")
        self.item = item
        self.code = "HeldTwice"


class BreaksBeside(RuleError):
    """A told lot that breaks the rule beside which it should stand."""

    def __init__(self, lot):
        super().__init__(f"the told lot breaks the rule: {lot}")
        self.lot = lot
        self.code = "BreaksBeside"


class NotSo(RuleError):
    """A lot that shows that rules do not follow to a wish."""

    def __init__(self, lot):
        super().__init__(f"the rules do not follow: {lot}")
        self.lot = lot
        self.code = "NotSo"


class NotEnough(RuleError):
    """A lot that shows that no choice is enough."""

    def __init__(self, lot):
        super().__init__(f"no choice is enough: {lot}")
        self.lot = lot
        self.code = "NotEnough"


class CantAnswer(RuleError):
    """A question that a run breaks alone."""

    def __init__(self, at, run):
        super().__init__(f"the question {at} has no answer with the run {run}")
        self.at = at
        self.run = run
        self.code = "CantAnswer"


class EndedRun(RuleError):
    """A growing run that has ended."""

    def __init__(self, at):
        super().__init__(f"the run {at} has ended")
        self.at = at
        self.code = "EndedRun"


class NoDraft(RuleError):
    """There is no draft to end."""

    def __init__(self):
        super().__init__("no draft has begun")
        self.code = "NoDraft"


class InDraft(RuleError):
    """There is a draft already."""

    def __init__(self):
        super().__init__("a draft has begun already")
        self.code = "InDraft"


class Missing(LookupError):
    """The base of the errors about things that are not there."""


class UnknownPart(Missing):
    """A name that no part of the letters has."""

    def __init__(self, name):
        super().__init__(f"no such part: {name}")
        self.name = name
        self.code = "UnknownPart"


class UnknownName(Missing):
    """A name of nothing that is known."""

    def __init__(self, name):
        super().__init__(f"nothing has the name {name}")
        self.name = name
        self.code = "UnknownName"


class UnknownRun(Missing):
    """An index that no growing run has."""

    def __init__(self, at):
        super().__init__(f"there is no run {at}")
        self.at = at
        self.code = "UnknownRun"


class NotHeld(Missing):
    """A run that is not there."""

    def __init__(self, run):
        super().__init__(f"the run is not there: {run}")
        self.run = run
        self.code = "NotHeld"


class NothingLeft(IndexError):
    """There is nothing left to take back or to do again."""

    def __init__(self):
        super().__init__("nothing is left")
        self.code = "NothingLeft"
