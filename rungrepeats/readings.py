"""Readings: rules and forms with a text."""

from rungrepeats.errors import InvalidRow, Unreadable
from rungrepeats.rules import Rule

DIGITS = 40


def read_rule(text):
    """Return the rule with a text."""
    try:
        return Rule(text.split("/"))
    except InvalidRow:
        raise Unreadable(text) from None


def _number_in(text):
    """Return the number with a text."""
    if not text.isdecimal() or not text.isascii() or len(text) > DIGITS or (text[0] == "0" and text != "0"):
        raise Unreadable(text)
    return int(text)


def _halves_of(text, mark):
    """Return the two parts of a text that a mark separates."""
    parts = text.split(mark)
    if len(parts) != 2:
        raise Unreadable(text)
    return parts


def _pair_in(text, mark):
    """Return the two numbers of a text that a mark separates."""
    before, behind = _halves_of(text, mark)
    return (_number_in(before), _number_in(behind))


def _form_in(text):
    """Return the form with a text."""
    lengths, numbers = _halves_of(text, "x")
    length, longer = _pair_in(lengths, "+")
    many, more = _pair_in(numbers, "+")
    if length == 0 or (longer > 0 and more > 0) or (many == 0 and more == 0):
        raise Unreadable(text)
    return (length, longer, many, more)


def _lot_in(text):
    """Return the lot with a text."""
    parts = text.split(" ")
    if parts[0] != "" or len(parts) == 1:
        raise Unreadable(text)
    lot = [_form_in(part) for part in parts[1:]]
    for at in range(1, len(lot)):
        # Both alike in the lengths are not let, so the numbers of rings need no look.
        if lot[at - 1][:2] >= lot[at][:2]:
            raise Unreadable(text)
    return lot


def _forms_in(text):
    """Return the tuple (first, every, lots) with a text."""
    parts = text.split(";")
    first, every = _pair_in(parts[0], " ")
    lots = [_lot_in(part) for part in parts[1:]]
    if first == 0 or every == 0 or len(lots) != every:
        raise Unreadable(text)
    return (first, every, lots)


def read_forms(text):
    """Return the tuple (first, every, lots) with a text."""
    try:
        return _forms_in(text)
    except Unreadable:
        # Refused is the whole text, not the part in which something is wrong.
        raise Unreadable(text) from None
