"""What the tests share: a line written with the calls' names, and its answers taken apart."""

from wrongturn.disputation import answers

NAMES = (
    "begin", "said", "unsay", "amend", "lay", "know", "bad", "first", "kind", "caught", "stands",
    "mended", "differ", "least", "laids", "laid", "knowns", "known", "would", "alone", "look", "state",
)

# How many numbers each call takes, as DOC.md's interface lists them.
TAKES = {
    "begin": 3, "said": 2, "unsay": 1, "amend": 2, "lay": 1, "know": 1, "bad": 0, "first": 0,
    "kind": 1, "caught": 0, "stands": 1, "mended": 0, "differ": 0, "least": 0, "laids": 0,
    "laid": 1, "knowns": 0, "known": 1, "would": 2, "alone": 0, "look": 1, "state": 0,
}

HIGHEST = 4294967295


def flat(calls):
    """[("said", 3, 1), ("bad",)] as the one list of numbers that is handed in."""
    numbers = []
    for call in calls:
        assert len(call) - 1 == TAKES[call[0]], call
        numbers.append(NAMES.index(call[0]))
        numbers.extend(call[1:])
    return numbers


def apart(told):
    """The list that is given back, as one list for each call."""
    parts = []
    at = 0
    while at < len(told):
        size = told[at]
        part = told[at + 1:at + 1 + size]
        assert size >= 1 and len(part) == size, told
        parts.append(part)
        at += 1 + size
    return parts


def run(*calls):
    """The answers to a line, one list for each call."""
    numbers = flat(calls)
    assert len(calls) <= 50 and len(numbers) <= 200, calls
    parts = apart(answers(numbers))
    assert len(parts) == len(calls), parts
    return parts


def last(*calls):
    """The answer to a line's last call."""
    return run(*calls)[-1]


def questions(how_many):
    """Calls that together show all that can be told of a disputation with so many answers.

    What can be shown only by changing it comes last.
    """
    asked = [("bad",), ("first",), ("caught",)]
    for i in range(how_many + 1):
        asked.append(("kind", i))
    for i in range(how_many + 2):
        asked.append(("stands", i))
    asked.append(("lay", 1))
    asked.append(("know", 1))
    for i in range(how_many):
        asked.append(("amend", i, 1))
    return asked
