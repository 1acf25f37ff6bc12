"""A disputation that is written down, and what was wrong in it.

A set of worlds, and so a proposition, is a whole number: world w counts 2 to the power of w.
"""

DENIED = 0
CONCEDED = 1
DOUBTED = 2

RIGHT = 0
DENIES_WHAT_FOLLOWS = 1
CONCEDES_WHAT_IS_AGAINST = 2
DOUBTS_WHAT_MATTERS = 3
OTHERWISE_THAN_KNOWN = 4

NO_SUCH_ANSWER = -2
NOT_BEGUN = -11
NOT_RIGHT = -22
TOO_MANY = -28
CANNOT_BE = -33

MOST_LETTERS = 3
MOST_WORLDS = 8
MOST_ANSWERS = 8

# How many propositions there are, by how many letters.
PROPOSITIONS = (0, 4, 16, 256)

# How many numbers stand behind each call's own, by that one.
NUMBERS_GIVEN = (3, 2, 1, 2, 1, 1, 0, 0, 1, 0, 1, 0, 0, 0, 0, 1, 0, 1, 2, 0, 1, 0)


class Record:
    """What is written of one disputation; no letters means that it hasn't begun."""

    def __init__(self):
        self.letters = 0
        self.known_worlds = 0
        self.laid_down = 0
        self.entries = []


def is_proposition(letters, number):
    return number < PROPOSITIONS[letters]


def count_worlds(worlds):
    return sum([(worlds >> world) & 1 for world in range(MOST_WORLDS)])


def settled_by(worlds, proposed):
    """How a proposition is answered by some worlds alone."""
    # The order matters: of no worlds at all everything follows, and nothing is against them.
    if worlds & proposed == worlds:
        return CONCEDED
    if worlds & proposed == 0:
        return DENIED
    return DOUBTED


def right_answer(standing, known_worlds, proposed):
    by_standing = settled_by(standing, proposed)
    if by_standing != DOUBTED:
        return by_standing
    return settled_by(known_worlds, proposed)


def kind_of(standing, known_worlds, proposed, answer):
    if answer == right_answer(standing, known_worlds, proposed):
        return RIGHT
    by_standing = settled_by(standing, proposed)
    if by_standing == DOUBTED:
        return OTHERWISE_THAN_KNOWN
    if answer == DOUBTED:
        return DOUBTS_WHAT_MATTERS
    if by_standing == CONCEDED:
        return DENIES_WHAT_FOLLOWS
    return CONCEDES_WHAT_IS_AGAINST


def left_standing(standing, proposed, answer):
    if answer == CONCEDED:
        return standing & proposed
    if answer == DENIED:
        return standing - (standing & proposed)
    return standing


def stood_behind(laid_down, entries):
    """What stands behind the first 0, 1, 2 .. answers: one set more than there are answers."""
    standings = [laid_down]
    for proposed, answer in entries:
        standings.append(left_standing(standings[-1], proposed, answer))
    return standings


def kinds_of(laid_down, known_worlds, entries):
    standings = stood_behind(laid_down, entries)
    return [kind_of(standings[i], known_worlds, entry[0], entry[1]) for i, entry in enumerate(entries)]


def bad_answers(laid_down, known_worlds, entries):
    kinds = kinds_of(laid_down, known_worlds, entries)
    return [i for i, found in enumerate(kinds) if found != RIGHT]


def is_all_right(laid_down, known_worlds, entries):
    return len(bad_answers(laid_down, known_worlds, entries)) == 0


def mended_answers(laid_down, known_worlds, entries):
    """The right answers, each by what stands if all before it were right, too."""
    standing = laid_down
    mended_ones = []
    for entry in entries:
        right = right_answer(standing, known_worlds, entry[0])
        mended_ones.append(right)
        standing = left_standing(standing, entry[0], right)
    return mended_ones


def answered_otherwise(entries, i, answer):
    """The entries as they would be if answer i were this one."""
    changed = list(entries)
    changed[i] = (entries[i][0], answer)
    return changed


def fewest_struck(laid_down, known_worlds, entries):
    """The fewest answers that leave all right when they are struck out, rising."""
    fewest = list(range(len(entries)))
    # The sets come by their numbers, so the first found of those that have as few is the one with the lesser number.
    for chosen in range(1 << len(entries)):
        struck = [i for i in range(len(entries)) if (chosen >> i) & 1 == 1]
        left = [entry for i, entry in enumerate(entries) if (chosen >> i) & 1 == 0]
        if len(struck) < len(fewest) and is_all_right(laid_down, known_worlds, left):
            fewest = struck
    return fewest


def right_layings(record):
    """What could have been laid down so that all was right, rising."""
    above = PROPOSITIONS[record.letters]
    return [worlds for worlds in range(1, above) if is_all_right(worlds, record.known_worlds, record.entries)]


def right_knowings(record):
    """Which worlds could have been known so that all was right, rising."""
    above = PROPOSITIONS[record.letters]
    return [worlds for worlds in range(1, above) if is_all_right(record.laid_down, worlds, record.entries)]


# The calls. All take the record and the list of numbers given, so that they can lie in one table;
# each gives back the list of numbers that are answered.


def begin(record, given):
    letters = given[0]
    known_worlds = given[1]
    laid_down = given[2]
    if letters < 1 or letters > MOST_LETTERS:
        return [NOT_RIGHT]
    if not is_proposition(letters, known_worlds) or not is_proposition(letters, laid_down):
        return [NOT_RIGHT]
    if known_worlds == 0:
        return [NOT_RIGHT]
    if laid_down == 0:
        return [CANNOT_BE]
    record.letters = letters
    record.known_worlds = known_worlds
    record.laid_down = laid_down
    record.entries = []
    return [0]


def said(record, given):
    proposed = given[0]
    answer = given[1]
    if not is_proposition(record.letters, proposed) or answer > DOUBTED:
        return [NOT_RIGHT]
    if len(record.entries) == MOST_ANSWERS:
        return [TOO_MANY]
    record.entries.append((proposed, answer))
    return [len(record.entries) - 1]


def unsay(record, given):
    i = given[0]
    if i >= len(record.entries):
        return [NO_SUCH_ANSWER]
    record.entries.pop(i)
    return [len(record.entries)]


def refusal_of_answer(record, i, answer):
    """The refusal that is due where answer i is to be another, or None."""
    if i >= len(record.entries):
        return NO_SUCH_ANSWER
    if answer > DOUBTED:
        return NOT_RIGHT
    return None


def amend(record, given):
    refusal = refusal_of_answer(record, given[0], given[1])
    if refusal is not None:
        return [refusal]
    before = record.entries[given[0]][1]
    record.entries = answered_otherwise(record.entries, given[0], given[1])
    return [before]


def refusal_of_worlds(record, worlds):
    """The refusal that is due where some world is asked for, or None."""
    if not is_proposition(record.letters, worlds):
        return NOT_RIGHT
    if worlds == 0:
        return CANNOT_BE
    return None


def lay(record, given):
    refusal = refusal_of_worlds(record, given[0])
    if refusal is not None:
        return [refusal]
    before = record.laid_down
    record.laid_down = given[0]
    return [before]


def know(record, given):
    refusal = refusal_of_worlds(record, given[0])
    if refusal is not None:
        return [refusal]
    before = record.known_worlds
    record.known_worlds = given[0]
    return [before]


def counted(found):
    return [len(found)] + found


def bad(record, given):
    return counted(bad_answers(record.laid_down, record.known_worlds, record.entries))


def first(record, given):
    found = bad_answers(record.laid_down, record.known_worlds, record.entries)
    if len(found) == 0:
        return [CANNOT_BE]
    i = found[0]
    entry = record.entries[i]
    standing = stood_behind(record.laid_down, record.entries)[i]
    right = right_answer(standing, record.known_worlds, entry[0])
    return [i, right, kind_of(standing, record.known_worlds, entry[0], entry[1])]


def kind(record, given):
    i = given[0]
    if i >= len(record.entries):
        return [NO_SUCH_ANSWER]
    return [kinds_of(record.laid_down, record.known_worlds, record.entries)[i]]


def caught(record, given):
    standings = stood_behind(record.laid_down, record.entries)
    if 0 not in standings:
        return [CANNOT_BE]
    return [standings.index(0)]


def stands(record, given):
    how_many = given[0]
    if how_many > len(record.entries):
        return [NO_SUCH_ANSWER]
    standing = stood_behind(record.laid_down, record.entries)[how_many]
    return [count_worlds(standing), standing]


def mended(record, given):
    return counted(mended_answers(record.laid_down, record.known_worlds, record.entries))


def differ(record, given):
    mended_ones = mended_answers(record.laid_down, record.known_worlds, record.entries)
    return counted([i for i, entry in enumerate(record.entries) if entry[1] != mended_ones[i]])


def least(record, given):
    return counted(fewest_struck(record.laid_down, record.known_worlds, record.entries))


def one_of(found, which):
    if which >= len(found):
        return [CANNOT_BE]
    return [found[which]]


def laids(record, given):
    return [len(right_layings(record))]


def laid(record, given):
    return one_of(right_layings(record), given[0])


def knowns(record, given):
    return [len(right_knowings(record))]


def known(record, given):
    return one_of(right_knowings(record), given[0])


def would(record, given):
    refusal = refusal_of_answer(record, given[0], given[1])
    if refusal is not None:
        return [refusal]
    changed = answered_otherwise(record.entries, given[0], given[1])
    return counted(bad_answers(record.laid_down, record.known_worlds, changed))


def alone(record, given):
    # What is known still counts: it's only what was answered before that doesn't.
    right_ones = [right_answer(record.laid_down, record.known_worlds, entry[0]) for entry in record.entries]
    return counted([i for i, entry in enumerate(record.entries) if entry[1] != right_ones[i]])


def look(record, given):
    i = given[0]
    if i >= len(record.entries):
        return [NO_SUCH_ANSWER]
    return list(record.entries[i])


def state(record, given):
    return [record.letters, record.known_worlds, record.laid_down, len(record.entries)]


# By their numbers.
CALLS = (
    begin, said, unsay, amend, lay, know, bad, first, kind, caught, stands,
    mended, differ, least, laids, laid, knowns, known, would, alone, look, state,
)


def answer_call(record, number, given):
    if record.letters == 0 and number != 0:
        return [NOT_BEGUN]
    return CALLS[number](record, given)


def answers(calls):
    """What the calls on one new object answer, each with how many numbers that is before it."""
    record = Record()
    told = []
    at = 0
    while at < len(calls):
        number = calls[at]
        behind = at + 1 + NUMBERS_GIVEN[number]
        answered = answer_call(record, number, calls[at + 1:behind])
        told.append(len(answered))
        told.extend(answered)
        at = behind
    return told
