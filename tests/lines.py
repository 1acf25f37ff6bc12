"""What the tests share: a line written with the calls' names, and its answers taken apart."""

from wrongturn.disputation import answers

NAMES = (
    "begin", "said", "unsay", "amend", "lay", "know", "bad", "first", "kind", "caught", "stands",
    "mended", "differ", "least", "laids", "laid", "knowns", "known", "would", "alone", "look", "state",
)

# How many numbers each call takes, as DOC.md's interface lists them.
TAKES = {
    "begin": 3, "said": 2, "unsay": 1, "amend": 2, "lay": 1, "know": 1, "bad": 0, "first": 0,
    "kind": 1, "caught": 0, "stands": 1, "mended": 0, "differ": 0, "least": 0, "laids": 0,
    "laid": 1, "knowns": 0, "known": 1, "would": 2, "alone": 0, "look": 1, "state": 0,
}

HIGHEST = 4294967295

# Two letters; the worlds 0 to 3 count 1, 2, 4, 8.
# Laid down {0, 1}; known are {1, 2}: of what doesn't matter {1, 2} is known to be so,
# {0, 3} known not to be so, {1, 3} is neither.
BEGUN = ("begin", 2, 6, 3)
FOLLOWS, AGAINST, KNOWN_SO, KNOWN_NOT, OPEN = 7, 12, 6, 9, 10


def flat(calls):
    """[("said", 3, 1), ("bad",)] as the one list of numbers that is handed in."""
    numbers = []
    for call in calls:
        assert len(call) - 1 == TAKES[call[0]], call
        numbers.append(NAMES.index(call[0]))
        numbers.extend(call[1:])
    return numbers


def apart(told):
    """The list that is given back, as one list for each call."""
    parts = []
    at = 0
    while at < len(told):
        size = told[at]
        part = told[at + 1:at + 1 + size]
        assert size >= 1 and len(part) == size, told
        parts.append(part)
        at += 1 + size
    return parts


def run(*calls):
    """The answers to a line, one list for each call."""
    numbers = flat(calls)
    assert len(calls) <= 50 and len(numbers) <= 200, calls
    parts = apart(answers(numbers))
    assert len(parts) == len(calls), parts
    return parts


def last(*calls):
    """The answer to a line's last call."""
    return run(*calls)[-1]


def told_of(begin, said, *asked):
    """The answers to what's asked of a disputation."""
    return run(begin, *[("said", p, a) for p, a in said], *asked)[1 + len(said):]


def told_each(begin, said, calls):
    """The answers to more calls than one line holds, each forty of them on the disputation as it was."""
    told = []
    for at in range(0, len(calls), 40):
        told += told_of(begin, said, *calls[at:at + 40])
    return told


def questions(how_many):
    """Calls that together show all that can be told of a disputation with so many answers, and change nothing."""
    asked = [(name,) for name in ("state", "bad", "first", "caught", "mended", "differ", "least", "laids", "knowns", "alone")]
    for i in range(how_many + 1):
        asked.append(("look", i))
        asked.append(("kind", i))
    for i in range(how_many + 2):
        asked.append(("stands", i))
    return asked


def shown(how_many):
    """Calls that show all that is kept of a disputation with so many answers, and how it's judged."""
    return [("state",)] + [("look", i) for i in range(how_many + 1)] + [("bad",)]
