"""The errors of the package; none of them is a subclass of another one but of FlowError."""


class FlowError(ValueError):
    """The base class of all errors."""


class UnknownFlag(FlowError):
    """A flag is used where no declaration of its name is visible."""

    def __init__(self, name):
        super().__init__(f"no flag is visible here under the name {name}")
        self.name = name


class FlagTwice(FlowError):
    """A flag is declared twice in the same body."""

    def __init__(self, name):
        super().__init__(f"the flag {name} is declared twice in the same body")
        self.name = name


class OutsideOfLoop(FlowError):
    """A jump without a label has no loop around it."""

    def __init__(self, word):
        super().__init__(f"{word} without a label and without a loop around it")
        self.word = word


class TextError(FlowError):
    """A text cannot be read; the place is an index in the text."""

    def __init__(self, place, reason):
        super().__init__(f"at the place {place}: {reason}")
        self.place = place
        self.reason = reason


class TooManyFlags(FlowError):
    """A program has more declarations than are allowed."""

    def __init__(self, count):
        super().__init__(f"too many declarations of flags: {count}")
        self.count = count


class TooManyConfigurations(FlowError):
    """A program or code may have too many configurations."""

    def __init__(self, count):
        super().__init__(f"too many configurations: {count}")
        self.count = count


class TooManyNodes(FlowError):
    """A minimal flow graph has too many nodes."""

    def __init__(self, count):
        super().__init__(f"too many nodes: {count}")
        self.count = count


class TooManyPositions(FlowError):
    """A flow graph has too many positions."""

    def __init__(self, count):
        super().__init__(f"too many positions: {count}")
        self.count = count


class TryInFinally(FlowError):
    """A try stands in the last body of another one."""


class TooLarge(FlowError):
    """A program or a condition would be too large."""


class NoStatement(FlowError):
    """There is no statement at a path."""


class TooManyVersions(FlowError):
    """A session has as many versions as it may have."""


class RunOver(FlowError):
    """A run that has ended is answered."""
