"""Lists that go round: their first entry follows the last one."""


def from_least(entries):
    """Return a list that goes round, told from its least entry on; an empty one stays empty."""
    if len(entries) == 0:
        return []
    start = entries.index(min(entries))
    return entries[start:] + entries[:start]


def repeats_after(entries):
    """Return the least number of entries after which a list that goes round repeats."""
    return min([by for by in range(1, len(entries) + 1) if _is_same_moved(entries, by)])


def _is_same_moved(entries, by):
    """Return True if a list that goes round is the same when told from so many entries later, otherwise False."""
    return len(entries) % by == 0 and entries[by:] + entries[:by] == entries
