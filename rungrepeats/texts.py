"""Texts: rules and forms as texts."""


def show_rule(rule):
    """Return the rows of a rule, separated by a stroke."""
    return "/".join(rule.rows)


def _text_of(form):
    """Return the text of a form."""
    length, longer, many, more = form
    return f" {length}+{longer}x{many}+{more}"


def show_forms(told):
    """Return the text of a tuple (first, every, lots)."""
    first, every, lots = told
    return ";".join([f"{first} {every}"] + ["".join([_text_of(form) for form in lot]) for lot in lots])
