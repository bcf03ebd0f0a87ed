"""Live ladders: rungs are set one by one, and may be taken back."""

from rungrepeats.checks import check_post, check_size
from rungrepeats.errors import InvalidRow, NothingToUndo, OffRule, Taken
from rungrepeats.marks import is_marked


def _ends_at(text, post):
    """Return True if a rung of a row ends at a post, otherwise False."""
    return "-" in text[max(0, post - 1):post + 1]


class Ladder:
    """A live ladder with n posts and, at first, one row without rungs."""

    def __init__(self, n):
        check_size(n)
        self._posts = n
        self._texts = ("." * (n - 1),)
        self._past = []

    @property
    def rows(self):
        """The list of the rows, a new one each time."""
        return list(self._texts)

    def _check_rung(self, post):
        """Refuse a rung that cannot be set in the last row."""
        check_post(post, self._posts - 1)
        for end in (post, post + 1):
            if _ends_at(self._texts[-1], end):
                raise Taken(end)

    def _check_row(self, text):
        """Refuse a text that is no row of this ladder."""
        if len(text) != self._posts - 1 or not is_marked(text):
            raise InvalidRow(text)

    def _change_to(self, texts):
        """Keep the rows as they are for `undo`, and then take others."""
        self._past.append(self._texts)
        self._texts = texts

    def _set_rung(self, post):
        """Set a rung in the last row."""
        last = self._texts[-1]
        self._change_to(self._texts[:-1] + (last[:post] + "-" + last[post + 1:],))

    def __call__(self, post):
        """Set a rung between a post and the next one in the last row, and return where walkers come out then."""
        self._check_rung(post)
        self._set_rung(post)
        return self.order()

    def next_row(self):
        """Begin a new row, and return the number of the rows."""
        self._change_to(self._texts + ("." * (self._posts - 1),))
        return len(self._texts)

    def order(self):
        """Return the list with, for each post, the post at which a walker from it comes out below the last row."""
        ends = list(range(self._posts))
        # From the last row upward: a walker above a row comes out where the other one does behind its rung.
        for text in self._texts[::-1]:
            for post in range(len(text)):
                if text[post] == "-":
                    ends[post], ends[post + 1] = ends[post + 1], ends[post]
        return ends

    def add_row(self, text):
        """Begin a new row, and set the rungs of a text in it."""
        self._check_row(text)
        self._change_to(self._texts + (text,))

    def undo(self):
        """Take back the last deed: a rung, a new row or an added row."""
        if len(self._past) == 0:
            raise NothingToUndo(0)
        self._texts = self._past.pop()

    def __len__(self):
        return len([mark for mark in "".join(self._texts) if mark == "-"])

    def __eq__(self, other):
        if not isinstance(other, Ladder) or isinstance(other, RuleLadder):
            return False
        return self._posts == other._posts and self._texts == other._texts


class RuleLadder(Ladder):
    """A live ladder on which only the rungs of a rule may be set, in its rows."""

    def __init__(self, rule, n):
        super().__init__(n)
        self._rule = rule

    @property
    def rule(self):
        """The rule."""
        return self._rule

    def _check_rule(self, row, post):
        """Refuse a rung that the rule does not have in a row."""
        if not self._rule.has_rung(row, post):
            raise OffRule(post)

    def __call__(self, post):
        """Set a rung between a post and the next one in the last row, and return where walkers come out then."""
        self._check_rung(post)
        self._check_rule(len(self._texts) - 1, post)
        self._set_rung(post)
        return self.order()

    def add_row(self, text):
        """Begin a new row, and set the rungs of a text in it."""
        self._check_row(text)
        for post in range(len(text)):
            if text[post] == "-":
                self._check_rule(len(self._texts), post)
        self._change_to(self._texts + (text,))

    def is_full(self):
        """Return True if all rungs of the rule are set in all rows, otherwise False."""
        for row, text in enumerate(self._texts):
            for post in range(len(text)):
                if text[post] != "-" and self._rule.has_rung(row, post):
                    return False
        return True

    def __eq__(self, other):
        if not isinstance(other, RuleLadder):
            return False
        return self._rule == other._rule and self._posts == other._posts and self._texts == other._texts
