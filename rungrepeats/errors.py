"""The errors of the package."""


class RungError(ValueError):
    """The base of all errors of the package, with the refused value."""

    def __init__(self, value):
        self.value = value


class InvalidRow(RungError):
    """A text that is no row, or no row of this rule or ladder."""


class InvalidSize(RungError):
    """A number of posts or of rows that is too small."""


class InvalidPost(RungError):
    """A post that is not on the ladder."""


class InvalidNumber(RungError):
    """Another number that is too small."""


class Taken(RungError):
    """A post at which a rung of the row ends already."""


class OffRule(RungError):
    """A post behind which the rule has no rung in the row."""


class NothingToUndo(RungError):
    """No deed is left that could be taken back."""


class Unreadable(RungError):
    """A text that nothing is shown as."""
