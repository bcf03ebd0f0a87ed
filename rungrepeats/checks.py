"""Checks of numbers that several parts of the package share."""

from rungrepeats.errors import InvalidNumber, InvalidPost, InvalidSize


def check_size(n):
    """Refuse a number of posts that no ladder has."""
    if n < 1:
        raise InvalidSize(n)


def check_post(post, n):
    """Refuse a post that is not on the ladder with n posts."""
    if post < 0 or post >= n:
        raise InvalidPost(post)


def check_half_post(post):
    """Refuse a post that is not on the half row."""
    if post < 0:
        raise InvalidPost(post)


def check_number(number):
    """Refuse a number below 0."""
    if number < 0:
        raise InvalidNumber(number)


def check_positive(number):
    """Refuse a number below 1."""
    if number < 1:
        raise InvalidNumber(number)
