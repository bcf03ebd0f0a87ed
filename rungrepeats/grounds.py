"""Grounds: the ways on ladders with any number of posts and on the half row, so that many rounds are told at once."""

from math import lcm

from rungrepeats.courses import Course
from rungrepeats.sizes import sizes_from
from rungrepeats.walks import walk_of


class Ground:
    """How the walkers of a rule go on the ladder with n posts, or on the half row, where n is None.

    The first and the last posts, as many as the height, are near an end. From all others a walker goes, for one
    round, as on the endless row.
    """

    def __init__(self, rule):
        self._rule = rule
        self.course = Course(rule)
        self.reach = rule.height
        # From so many posts on, no walker comes to both ends but by a shift, and so more posts change no turn.
        self.steady = 2 * rule.height * (rule.width + 1)
        self.period = rule.width
        for _, shift in self.course.lanes:
            if shift != 0:
                self.period = lcm(self.period, shift)
        # With twice the height of posts, no walker can tell in one round whether there are more.
        apart = 2 * rule.height
        self._firsts = [walk_of(rule, apart, post, rule.height)[-1] for post in range(rule.height)]
        self._lasts = [self._last_steps(apart + more) for more in range(rule.width)]

    def _last_steps(self, n):
        """Return where walkers from the last posts go in one round, the very last one first, counted from n."""
        return [walk_of(self._rule, n, n - 1 - at, self.reach)[-1] - n for at in range(self.reach)]

    def is_near(self, n, post):
        """Return True if a post is near an end, otherwise False."""
        return post < self.reach or (n is not None and post >= n - self.reach)

    def near_posts(self, n):
        """Return the ascending list of the posts of a ladder near an end."""
        return list(range(min(n, self.reach))) + list(range(max(self.reach, n - self.reach), n))

    def after_round(self, n, post):
        """Return where a walker from a post stands after one round."""
        apart = 2 * self.reach
        if not self.is_near(n, post):
            return self.course.place(post, 1)
        if n is not None and n < apart:
            return walk_of(self._rule, n, post, self.reach)[-1]
        if post < self.reach:
            return self._firsts[post]
        return n + self._lasts[(n - apart) % len(self._lasts)][n - 1 - post]

    def to_end(self, n, post):
        """Return the tuple (rounds, post) of the first post near an end on the way from a post, itself included.

        None if there is none.
        """
        rounds = self.course.rounds_within(post, self.reach, None if n is None else n - self.reach)
        if rounds is None:
            return None
        return (rounds, self.course.place(post, rounds))

    def rounds_ahead(self, n, post, other):
        """Return the least number of rounds after which a walker from a post stands at another one.

        None if this is not on the way to the first post near an end.
        """
        rounds = self.course.rounds_between(post, other)
        gone = self.to_end(n, post)
        if rounds is None or (gone is not None and rounds > gone[0]):
            return None
        return rounds

    def end_ring(self, n, post):
        """Return the length of the ring of a post near an end, and the list of its posts near an end, from it on.

        None if the walker goes off for ever.
        """
        length = 0
        posts = [post]
        while length == 0 or posts[-1] != post:
            gone = self.to_end(n, self.after_round(n, posts[-1]))
            if gone is None:
                return None
            length = length + 1 + gone[0]
            posts.append(gone[1])
        return (length, posts[:-1])

    def length_at(self, n, post):
        """Return the length of the ring of a post, None if the walker goes off for ever."""
        gone = self.to_end(n, post)
        if gone is None:
            return self.course.ring_length(post)
        ring = self.end_ring(n, gone[1])
        return None if ring is None else ring[0]

    def after_rounds(self, n, post, rounds):
        """Return where a walker from a post stands after so many rounds."""
        length = self.length_at(n, post)
        more = rounds if length is None else rounds % length
        at = post
        gone = self.to_end(n, at)
        while gone is not None and gone[0] < more:
            more = more - gone[0] - 1
            at = self.after_round(n, gone[1])
            gone = self.to_end(n, at)
        return self.course.place(at, more)

    def end_rings(self, n):
        """Return the rings of a ladder that come near an end, as `end_ring` tells them, from their least posts on."""
        rings = []
        seen = set()
        for post in self.near_posts(n):
            if post not in seen:
                length, posts = self.end_ring(n, post)
                for at in posts:
                    seen.add(at)
                rings.append((length, posts))
        return rings

    def inner_rings(self, n):
        """Return the tuples (length, many) of the rings of a ladder that do not come near an end, lane by lane."""
        return self.course.rings_within(self.reach, n - self.reach)

    def sizes(self, n):
        """Return the ascending list of the tuples (length, many) for the rings of a ladder."""
        return sizes_from([(length, 1) for length, _ in self.end_rings(n)] + self.inner_rings(n))

    def mark_of(self, n, post):
        """Return a post of the ring of a post of a ladder, the same one for all posts of this ring."""
        gone = self.to_end(n, post)
        if gone is None:
            return post + min(self.course.moved[post % len(self.course.shifts)])
        return min(self.end_ring(n, gone[1])[1])
