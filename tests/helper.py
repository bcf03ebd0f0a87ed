"""What the tests share: rules to try, and plain counts by the words of DOC.md, without the package's code."""

import doctest

HUGE = 10 ** 30

# Several widths and heights: no rung at all, one row, rows twice, rungs round the end, uneven sizes.
SAMPLES = [
    ["."],
    ["-."],
    [".-"],
    ["-.", ".-"],
    ["-.", "..", ".-"],
    ["-..", ".-."],
    ["-..", ".-.", "..-"],
    ["..-", "..-", ".-."],
    ["-.-.", ".-.-", "-...", "...."],
    ["....-", "-....", ".-.-."],
    ["-.-..-.", ".-..-.-", "...-...", "-......", ".....-."],
]


def is_plain_row(text):
    """Say by the words of [4] whether a text is a row."""
    if not text or any(mark not in ("-", ".") for mark in text):
        return False
    return all(not (text[at] == "-" and text[(at + 1) % len(text)] == "-") for at in range(len(text)))


def large_texts(width, height, seed):
    """Give rows of a width with rungs scattered over them, always the same for the same arguments."""
    state = seed
    texts = []
    for _ in range(height):
        row = ["."] * width
        for at in range(width):
            state = (state * 1103515245 + 12345) % 2 ** 31
            free = row[at - 1] != "-" and row[(at + 1) % width] != "-"
            if width > 1 and free and state >> 16 & 1:
                row[at] = "-"
        texts.append("".join(row))
    return texts


def plain_rung(texts, row, post):
    """Say by the words of [5] whether a rule with these rows has a rung behind a post in a row."""
    text = texts[row % len(texts)]
    return text[post % len(text)] == "-"


def plain_ladder(texts, n, rows):
    """Walk all walkers down at once, row by row.

    Gives the ways of the walkers, and for each row the pairs of walkers that exchange their posts in it.
    """
    standing = list(range(n))
    ways = [[walker] for walker in range(n)]
    swaps = []
    for row in range(rows):
        pairs = []
        for post in range(n - 1):
            if plain_rung(texts, row, post):
                pairs.append((standing[post], standing[post + 1]))
                standing[post], standing[post + 1] = standing[post + 1], standing[post]
        swaps.append(pairs)
        for post, walker in enumerate(standing):
            ways[walker].append(post)
    return ways, swaps


def plain_partners(texts, n, post, rows):
    """Give the others with whom a walker exchanges posts, ascending."""
    met = set()
    for pairs in plain_ladder(texts, n, rows)[1]:
        for left, right in pairs:
            if left == post:
                met.add(right)
            if right == post:
                met.add(left)
    return sorted(met)


def plain_meets(texts, n, one, other, rows):
    """Count the rows with a pair in which both walkers are."""
    swaps = plain_ladder(texts, n, rows)[1]
    return sum(1 for pairs in swaps if any(one in pair and other in pair for pair in pairs))


def check_refused(case, kind, value, call, *args, **named):
    """Check that a call raises just this kind of error, with just this value."""
    with case.assertRaises(kind) as caught:
        call(*args, **named)
    case.assertIs(caught.exception.__class__, kind)
    case.assertEqual(caught.exception.value, value)
    case.assertIs(caught.exception.value.__class__, value.__class__)


def check_examples(case, text, many):
    """Check that the lines of an example of DOC.md, as many as told, answer as they stand."""
    example = doctest.DocTestParser().get_doctest(text, {}, "DOC.md", "DOC.md", 0)
    told = []
    result = doctest.DocTestRunner(verbose=False).run(example, out=told.append)
    case.assertEqual((result.failed, result.attempted), (0, many), "".join(told))
