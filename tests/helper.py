"""What the tests share: rules to try, and plain counts by the words of DOC.md, without the package's code."""

import doctest
import inspect
import itertools

HUGE = 10 ** 30

# Several widths and heights: no rung at all, one row, rows twice, rungs round the end, uneven sizes.
SAMPLES = [
    ["."],
    ["-."],
    [".-"],
    ["-.", ".-"],
    ["-.", "..", ".-"],
    ["-..", ".-."],
    ["-..", ".-.", "..-"],
    ["..-", "..-", ".-."],
    ["-.-.", ".-.-", "-...", "...."],
    ["....-", "-....", ".-.-."],
    ["-.-..-.", ".-..-.-", "...-...", "-......", ".....-."],
]


def is_plain_row(text):
    """Say by the words of [4] whether a text is a row."""
    if not text or any(mark not in ("-", ".") for mark in text):
        return False
    return all(not (text[at] == "-" and text[(at + 1) % len(text)] == "-") for at in range(len(text)))


def large_texts(width, height, seed):
    """Give rows of a width with rungs scattered over them, always the same for the same arguments."""
    state = seed
    texts = []
    for _ in range(height):
        row = ["."] * width
        for at in range(width):
            state = (state * 1103515245 + 12345) % 2 ** 31
            free = row[at - 1] != "-" and row[(at + 1) % width] != "-"
            if width > 1 and free and state >> 16 & 1:
                row[at] = "-"
        texts.append("".join(row))
    return texts


def plain_rung(texts, row, post):
    """Say by the words of [5] whether a rule with these rows has a rung behind a post in a row."""
    text = texts[row % len(texts)]
    return text[post % len(text)] == "-"


def plain_ladder(texts, n, rows):
    """Walk all walkers down at once, row by row.

    Gives the ways of the walkers, and for each row the pairs of walkers that exchange their posts in it.
    """
    standing = list(range(n))
    ways = [[walker] for walker in range(n)]
    swaps = []
    for row in range(rows):
        pairs = []
        for post in range(n - 1):
            if plain_rung(texts, row, post):
                pairs.append((standing[post], standing[post + 1]))
                standing[post], standing[post + 1] = standing[post + 1], standing[post]
        swaps.append(pairs)
        for post, walker in enumerate(standing):
            ways[walker].append(post)
    return ways, swaps


def plain_partners(texts, n, post, rows):
    """Give the others with whom a walker exchanges posts, ascending."""
    met = set()
    for pairs in plain_ladder(texts, n, rows)[1]:
        for left, right in pairs:
            if left == post:
                met.add(right)
            if right == post:
                met.add(left)
    return sorted(met)


def plain_meets(texts, n, one, other, rows):
    """Count the rows with a pair in which both walkers are."""
    swaps = plain_ladder(texts, n, rows)[1]
    return sum(1 for pairs in swaps if any(one in pair and other in pair for pair in pairs))


def check_refused(case, kind, value, call, *args, **named):
    """Check that a call raises just this kind of error, with just this value."""
    with case.assertRaises(kind) as caught:
        call(*args, **named)
    case.assertIs(caught.exception.__class__, kind)
    case.assertEqual(caught.exception.value, value)
    case.assertIs(caught.exception.value.__class__, value.__class__)


def check_examples(case, text, many):
    """Check that the lines of an example of DOC.md, as many as told, answer as they stand."""
    example = doctest.DocTestParser().get_doctest(text, {}, "DOC.md", "DOC.md", 0)
    told = []
    result = doctest.DocTestRunner(verbose=False).run(example, out=told.append)
    case.assertEqual((result.failed, result.attempted), (0, many), "".join(told))


def rows_of_width(width):
    """Give all rows of a width."""
    texts = ["".join(marks) for marks in itertools.product("-.", repeat=width)]
    return [text for text in texts if is_plain_row(text)]


def rules_of_size(width, height):
    """Give the lists of rows of all rules of a width and a height."""
    return [list(texts) for texts in itertools.product(rows_of_width(width), repeat=height)]


# Rules whose walkers turn far ahead of the end of the half row, so that some waits are below 0.
EARLY = [
    ["-..", "..-", "-..", ".-.", "..-"],
    ["..-.", ".-.-", "-.-.", ".-.-", "-.-.", "...-"],
    ["-.-...", "..-..-", "-.-.-.", ".-.-.-", "-.-.-.", ".-.-.-"],
]

# All rules of small sizes, and some of the greatest sizes that are asked for, with lanes of several shifts.
SMALL = rules_of_size(1, 1) + rules_of_size(2, 1) + rules_of_size(2, 2) + rules_of_size(3, 2) + rules_of_size(4, 1)
GREAT = [
    ["...-", "..-.", "...-", ".-..", "-.-.", ".-.-", "-.-.", ".-.-", "-..."],
    ["-...", ".-.-", "-.-.", ".-.-", "-.-.", ".-.-", "..-.", "...-", "...."],
    ["-.-...", "....-.", ".-.-.-", "-.-...", ".-.-.-", "-....."],
    ["-.-.-.", ".-.-.-", "-.-.-.", ".-.-.-", "-.-.-.", ".-.-.-"],
    ["-.-..", ".-.-.", "..-.-", "-..-.", ".-..-", "-.-..", "...-."],
    ["-..", ".-.", "..-", "-..", ".-.", "..-", "-..", ".-.", "..-"],
    ["-.", ".-", "-.", ".-", "-.", ".-", "-.", ".-", "-."],
    large_texts(6, 6, 11), large_texts(4, 9, 12), large_texts(5, 7, 13), large_texts(3, 9, 14), large_texts(6, 6, 15),
] + EARLY

# Rules whose forms begin behind 1, each for a reason of its own: one number before, the rings would be
LATE = [
    # other ones than the forms tell,
    ["-.-.", ".-.-", "-.-.", "...-", "-...", ".-.-"],
    # less than none of one length, and with all lengths other ones,
    ["..-", "-.."],
    # less than none by one form, although the forms for this length together are right,
    ["...-", "-.-.", ".-.-", "-.-."],
    # of a length below 1,
    ["-..", ".-.", "..-", "-..", "..-"],
    # or less than none; nothing later was found for a rule of these limits.
    ["-.-...", "....-.", ".-.-.-", "-.-...", ".-.-.-"],
]


def plain_inner(texts, post, rounds):
    """Walk down so many rounds on the endless row, row by row, and give the post at the end."""
    at = post
    for row in range(rounds * len(texts)):
        if plain_rung(texts, row, at):
            at += 1
        elif plain_rung(texts, row, at - 1):
            at -= 1
    return at


def plain_walk(texts, n, post, rows):
    """Walk down so many rows of a ladder, and give the posts of the walker ahead of the first and behind each one."""
    way = [post]
    for row in range(rows):
        at = way[-1]
        if at + 1 < n and plain_rung(texts, row, at):
            at += 1
        elif at > 0 and plain_rung(texts, row, at - 1):
            at -= 1
        way.append(at)
    return way


def plain_round(texts, n):
    """Give, for each post, where a walker from it stands after one round."""
    standing = list(range(n))
    for text in texts:
        width = len(text)
        for post in range(n - 1):
            if text[post % width] == "-":
                standing[post], standing[post + 1] = standing[post + 1], standing[post]
    after = [0] * n
    for post, walker in enumerate(standing):
        after[walker] = post
    return after


def plain_rings(texts, n):
    """Give the rings, each from its least post on, ordered by these."""
    after = plain_round(texts, n)
    rings = []
    told = set()
    for post in range(n):
        if post not in told:
            ring = [post]
            while after[ring[-1]] != post:
                ring.append(after[ring[-1]])
            told.update(ring)
            rings.append(ring)
    return rings


def plain_sizes(texts, n):
    """Give the lengths of the rings, ascending, with the number of the rings of each."""
    lengths = [len(ring) for ring in plain_rings(texts, n)]
    return [(length, lengths.count(length)) for length in sorted(set(lengths))]


def sizes_of_lot(lot, k):
    """Give by the words of [8] the sizes for which the forms of a lot stand with a k, None if it is no lot."""
    found = {}
    for length, longer, many, more in lot:
        if length < 1 or min(longer, many, more) < 0 or (longer and more) or not (many or more):
            return None
        found[length + longer * k] = found.get(length + longer * k, 0) + many + more * k
    if lot != sorted(lot) or len({form[:2] for form in lot}) != len(lot):
        return None
    return [(length, many) for length, many in sorted(found.items()) if many]


def _lot_at_the_end(sizes, at, every, longest):
    """Give the forms that the last two of the sizes with a rest ask for, if there are any, with k counted from `at`.

    Lengths of at most `longest` are taken for such that do not grow.
    """
    last = at + (len(sizes) - 1 - at) // every * every
    k = (last - at) // every
    one, two = dict(sizes[last - every]), dict(sizes[last])
    grown = []
    for told in (one, two):
        grown.append([length for length in sorted(told) if length > longest for _ in range(told[length])])
    if len(grown[0]) != len(grown[1]):
        return None
    found = {}
    for before, behind in zip(*grown):
        form = (behind - (behind - before) * k, behind - before)
        found[form] = found.get(form, 0) + 1
    lot = [(length, longer, many, 0) for (length, longer), many in found.items()]
    for length in set(one) | set(two):
        if length <= longest:
            many, more = two.get(length, 0), two.get(length, 0) - one.get(length, 0)
            lot.append((length, 0, many - more * k, more))
    return sorted(form for form in lot if form[2:] != (0, 0))


def _is_told_from_the_end(sizes, at, every, longest):
    """Say whether the forms that the last sizes ask for stand for the sizes at an index, too."""
    lot = _lot_at_the_end(sizes, at, every, longest)
    return lot is not None and sizes_of_lot(lot, 0) == sizes[at]


def plain_forms(sizes, longest):
    """Give the forms for a list of sizes, one for each number of posts from 1 on, by trying each `every`.

    There must be many more of them than `first` and `every` ask for. Lengths of at most `longest` do not grow.
    """
    for every in range(1, len(sizes) // 4):
        first = len(sizes) // 2
        if all(_is_told_from_the_end(sizes, at, every, longest) for at in range(first, len(sizes) - 2 * every)):
            while first > 0 and _is_told_from_the_end(sizes, first - 1, every, longest):
                first -= 1
            return (first + 1, every, [_lot_at_the_end(sizes, first + more, every, longest) for more in range(every)])
    return None


def plain_rests(truths, least):
    """Give the tuple (first, every, list) for truths of the numbers from a least one on, by trying each `every`.

    There must be many more of them than `first` and `every` ask for.
    """
    many = len(truths)
    for every in range(1, many // 4):
        first = many // 2
        if all(truths[at] == truths[at + every] for at in range(first, many - every)):
            while first > 0 and truths[first - 1] == truths[first - 1 + every]:
                first -= 1
            return (least + first, every, [more for more in range(every) if truths[first + more]])
    return None


def check_new_lists(case, call):
    """Check that what a call gives holds no list in two places, and none that another call gives."""
    def lists_in(told):
        found = [told] if isinstance(told, list) else []
        if isinstance(told, (list, tuple)):
            for entry in told:
                found.extend(lists_in(entry))
        return found

    first, second = call(), call()
    case.assertEqual(first, second)
    lists = lists_in(first) + lists_in(second)
    case.assertEqual(len({id(entry) for entry in lists}), len(lists))
    kept = repr(second)
    for entry in lists_in(first):
        entry.append("changed")
    case.assertEqual(repr(call()), kept)
    case.assertEqual(repr(second), kept)


def check_interface(case, module, told):
    """Check that functions stand in a module, each with just these parameters."""
    for call, parameters in told.items():
        case.assertEqual(call.__module__, module.__name__)
        case.assertEqual(list(inspect.signature(call).parameters), parameters)
