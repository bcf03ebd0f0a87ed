"""Rules: rows of rungs that repeat to the right and downward."""

from math import lcm

from rungrepeats.checks import check_half_post, check_number, check_size
from rungrepeats.errors import InvalidRow, InvalidSize
from rungrepeats.marks import is_row


def _shifted_row(row, by):
    """Return a row whose character number i + by, modulo the width, is number i of this one."""
    cut = -by % len(row)
    return row[cut:] + row[:cut]


def _mirrored_row(row, n):
    """Return a row whose character number i is number n - 2 - i, modulo the width, of this one."""
    return "".join([row[(n - 2 - at) % len(row)] for at in range(len(row))])


class Rule:
    """A rule: a list of rows of one length. It never changes."""

    def __init__(self, texts):
        if len(texts) == 0:
            raise InvalidSize(0)
        for row in texts:
            if not is_row(row) or len(row) != len(texts[0]):
                raise InvalidRow(row)
        self._rows = tuple(texts)

    @property
    def rows(self):
        """The list of the rows, a new one each time."""
        return list(self._rows)

    @property
    def width(self):
        """The length of the rows."""
        return len(self._rows[0])

    @property
    def height(self):
        """The number of the rows."""
        return len(self._rows)

    def inverse(self):
        """Return the rule with the rows in the opposite order."""
        return Rule(self.rows[::-1])

    def shifted(self, by):
        """Return the rule with the rungs of this one moved by so many posts to the right."""
        return Rule([_shifted_row(row, by) for row in self._rows])

    def then(self, other):
        """Return the rule with the rows of this one and then those of the other one."""
        width = lcm(self.width, other.width)
        return Rule([row * (width // len(row)) for row in self.rows + other.rows])

    def has_rung(self, row, post):
        """Return True if there is a rung between a post and the next one in a row, otherwise False."""
        check_number(row)
        check_half_post(post)
        return self._rows[row % self.height][post % self.width] == "-"

    def mirrored(self, n):
        """Return the rule with the rungs of the ladder with n posts seen from the other side."""
        check_size(n)
        return Rule([_mirrored_row(row, n) for row in self._rows])

    def __add__(self, other):
        return self.then(other)

    def __len__(self):
        return len(self._rows)

    def __eq__(self, other):
        return isinstance(other, Rule) and self._rows == other._rows
