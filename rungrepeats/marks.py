"""Marks: texts of the characters `-`, a rung, and `.`, none."""


def is_marked(text):
    """Return True if a text has only marks, and no two rungs side by side, otherwise False."""
    return text.count("-") + text.count(".") == len(text) and "--" not in text


def is_row(text):
    """Return True if a text is a row of a rule, otherwise False."""
    # The first character also follows the last one, so it is set behind it once more.
    return text != "" and is_marked(text + text[0])
