"""Lines: lengths and numbers of rings that grow evenly with the number of posts, and the forms of a rule by them."""

from rungrepeats.circles import repeats_after
from rungrepeats.grounds import Ground
from rungrepeats.sizes import sizes_from


def _through_and_still(ground, n):
    """Return the lengths of the rings that come near both ends, by their least posts, and how many others there are.

    The numbers of the others stand by their lengths.
    """
    through = {}
    still = {}
    for length, posts in ground.end_rings(n):
        if min(posts) < ground.reach and max(posts) >= n - ground.reach:
            through[min(posts)] = length
        else:
            still[length] = still.get(length, 0) + 1
    for length, many in ground.inner_rings(n):
        still[length] = still.get(length, 0) + many
    return (through, still)


def _line_of(n, before, behind, period):
    """Return the line (rise, base) of a value with n posts and the one with a period more.

    For a number of posts with the same rest the value is (rise * number + base) // period.
    """
    rise = behind - before
    return (rise, before * period - rise * n)


def _tail(ground, n):
    """Return the lines of the ladders with n posts and any number of periods more, in two ascending lists.

    In the first one are the lines (rise, base) of the lengths of the rings that come near both ends; in the other
    one, with the lengths of the others, the lines (length, rise, base) of their numbers.
    """
    period = ground.period
    through, still = _through_and_still(ground, n)
    longer, more = _through_and_still(ground, n + period)
    lengths = [_line_of(n, through[post], longer[post], period) for post in through]
    numbers = []
    for length in still:
        rise, base = _line_of(n, still[length], more[length], period)
        numbers.append((length, rise, base))
    return (sorted(lengths), sorted(numbers))


class Lines:
    """The lines of a rule, for each rest of the number of posts by the period, and the forms by them."""

    def __init__(self, rule):
        self.ground = Ground(rule)
        steady = self.ground.steady
        self._tails = [_tail(self.ground, steady + more) for more in range(self.ground.period)]
        self.every = repeats_after(self._tails)
        self.first = steady
        while self.first > 1 and self._tells(self.first - 1):
            self.first -= 1

    def lot(self, n, every):
        """Return the ascending list of the forms for n posts and every so many posts more, n being k = 0."""
        period = self.ground.period
        lengths, numbers = self._tails[(n - self.ground.steady) % period]
        found = {}
        for rise, base in lengths:
            form = ((rise * n + base) // period, rise * every // period)
            found[form] = found.get(form, 0) + 1
        lot = [(length, longer, many, 0) for (length, longer), many in found.items()]
        for length, rise, base in numbers:
            lot.append((length, 0, (rise * n + base) // period, rise * every // period))
        return sorted(lot)

    def lots(self, first, every):
        """Return the lots for all numbers of posts from a first one on, by so many rests."""
        return [self.lot(first + more, every) for more in range(every)]

    def _tells(self, n):
        """Return True if the lines are right for n posts, as forms with k = 0, otherwise False."""
        lot = self.lot(n, self.every)
        if any([length < 1 or many < 0 for length, _, many, _ in lot]):
            return False
        return sizes_from([(length, many) for length, _, many, _ in lot]) == self.ground.sizes(n)
