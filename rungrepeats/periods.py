"""Numbers that are told for ever by their rests."""

from rungrepeats.circles import repeats_after


def told_by_rests(least, truths, period):
    """Return the tuple (first, every, list) for what is true of numbers, `every` and then `first` the least ones.

    There are the truths of the numbers from the least one on, one by one. From the last ones on, as many as the
    period, they repeat.
    """
    at = len(truths) - period
    every = repeats_after(truths[at:])
    while at > 0 and truths[at - 1] == truths[at - 1 + every]:
        at -= 1
    return (least + at, every, [more for more in range(every) if truths[at + more]])
