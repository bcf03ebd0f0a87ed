"""Courses: the ways on the endless row, told once for each rest, so that many rounds are told at once."""

from rungrepeats.lanes import lane_with, lanes_of, steps_of


def _moved_from(steps, rest):
    """Return by how many posts a walker from a rest has been moved after 0 rounds and more, once through the lane."""
    moved = [0]
    for at in lane_with(steps, rest)[0][:-1]:
        moved.append(moved[-1] + steps[at])
    return moved


def _laps_within(post, shift, low, high):
    """Return how often a shift must move a post until it is below low, or at high or above, None if it never is.

    Where high is None, nothing is above.
    """
    if post < low or (high is not None and post >= high):
        return 0
    if shift < 0:
        return (post - low) // -shift + 1
    if shift > 0 and high is not None:
        return (high - 1 - post) // shift + 1
    return None


def _laps_between(post, shift, other):
    """Return how often a shift must move a post until it is another one, None if it never is."""
    if post == other:
        return 0
    if shift != 0 and (other - post) % shift == 0 and (other - post) // shift > 0:
        return (other - post) // shift
    return None


def _least_rounds(laps):
    """Return the least of the numbers of rounds that are so many laps and 0 rounds, so many and 1 round, and so on.

    Where there is None for the laps, there is no such number; None is returned if there are only these.
    """
    found = [times * len(laps) + more for more, times in enumerate(laps) if times is not None]
    return min(found, default=None)


def _many_with_rest(rest, width, low, high):
    """Return how many posts from low on, below high, leave a rest by the width."""
    return max(0, (high - 1 - rest) // width - (low - 1 - rest) // width)


class Course:
    """How the walkers of a rule go on the endless row.

    For each rest, `moved` tells by how many posts a walker from it has been moved after 0 rounds and more, once
    through its lane, and `shifts` tells the shift of this lane.
    """

    def __init__(self, rule):
        self.lanes = lanes_of(rule)
        steps = steps_of(rule)
        self.moved = [_moved_from(steps, rest) for rest in range(rule.width)]
        self.shifts = [lane_with(steps, rest)[1] for rest in range(rule.width)]

    def place(self, post, rounds):
        """Return where a walker from a post stands after so many rounds."""
        rest = post % len(self.shifts)
        laps, more = divmod(rounds, len(self.moved[rest]))
        return post + laps * self.shifts[rest] + self.moved[rest][more]

    def rounds_within(self, post, low, high):
        """Return the least number of rounds after which a walker stands below low, or at high or above.

        None if there is no such number. Where high is None, nothing is above.
        """
        rest = post % len(self.shifts)
        return _least_rounds([_laps_within(post + by, self.shifts[rest], low, high) for by in self.moved[rest]])

    def rounds_between(self, post, other):
        """Return the least number of rounds after which a walker from a post stands at another one, None if never."""
        rest = post % len(self.shifts)
        return _least_rounds([_laps_between(post + by, self.shifts[rest], other) for by in self.moved[rest]])

    def lap_of(self, post):
        """Return the tuple (rounds, shift) for once through the lane of a post."""
        rest = post % len(self.shifts)
        return (len(self.moved[rest]), self.shifts[rest])

    def ring_length(self, post):
        """Return after how many rounds a walker from a post is there again, None if the walker goes off for ever."""
        rounds, shift = self.lap_of(post)
        return rounds if shift == 0 else None

    def strand_of(self, post):
        """Return the tuple (x, rounds) for a post of a lane with a shift that is not 0.

        The strand x goes through the post: a walker from the post x stands there after so many rounds, below 0 if
        the walker has been there before.
        """
        rest = post % len(self.shifts)
        shift = self.shifts[rest]
        rests = [(post + by) % len(self.shifts) for by in self.moved[rest]]
        until = rests.index(min(rests))
        first = post + self.moved[rest][until]
        x = first % abs(shift)
        return (x, (first - x) // shift * len(rests) - until)

    def rings_within(self, low, high):
        """Return the tuples (length, many), lane by lane, of the rings with all posts from low on, below high."""
        told = []
        for rests, shift in self.lanes:
            if shift == 0:
                moved = self.moved[rests[0]]
                many = _many_with_rest(rests[0], len(self.shifts), low - min(moved), high - max(moved))
                told.append((len(rests), many))
        return told
