"""A second telling of the whole program, by sets of worlds and the document's words one by one; and drawn disputations."""

import itertools
import random

DENIED, CONCEDED, DOUBTED = 0, 1, 2


def worlds_of(number):
    return frozenset(world for world in range(8) if number // 2 ** world % 2 == 1)


def number_of(worlds):
    return sum(2 ** world for world in worlds)


# Every proposition as its worlds: the telling asks for them over and over.
WORLDS = [worlds_of(number) for number in range(256)]


def follows_of(standing, proposed):
    return all(world in proposed for world in standing)


def against(standing, proposed):
    return not follows_of(standing, proposed) and all(world not in proposed for world in standing)


def right_of(standing, known, proposed):
    if follows_of(standing, proposed):
        return CONCEDED
    if against(standing, proposed):
        return DENIED
    if known <= proposed:
        return CONCEDED
    if known.isdisjoint(proposed):
        return DENIED
    return DOUBTED


def behind(standing, proposed, answer):
    if answer == CONCEDED:
        return frozenset(world for world in standing if world in proposed)
    if answer == DENIED:
        return frozenset(world for world in standing if world not in proposed)
    return standing


class Told:
    """A disputation from its beginning, as the words tell it."""

    def __init__(self, known, laid, said):
        self.known = WORLDS[known]
        self.stood = [WORLDS[laid]]
        self.right = []
        self.kinds = []
        for number, answer in said:
            self.hear(WORLDS[number], answer)
        self.bad = [i for i, kind in enumerate(self.kinds) if kind != 0]

    def hear(self, proposed, answer):
        standing = self.stood[-1]
        right = right_of(standing, self.known, proposed)
        follows, opposed = follows_of(standing, proposed), against(standing, proposed)
        self.right.append(right)
        if answer == right:
            self.kinds.append(0)
        elif follows and answer == DENIED:
            self.kinds.append(1)
        elif opposed and answer == CONCEDED:
            self.kinds.append(2)
        elif follows or opposed:
            self.kinds.append(3)
        else:
            self.kinds.append(4)
        self.stood.append(behind(standing, proposed, answer))


def mended(known, laid, proposals):
    """The right answers by trial: each proposition is said thrice, and the answer that isn't bad is kept."""
    said = []
    for p in proposals:
        ways = [said + [(p, a)] for a in range(3)]
        said = [way for way in ways if Told(known, laid, way).kinds[-1] == 0][0]
    return [a for p, a in said]


def all_right(known, laid, said):
    standing = WORLDS[laid]
    for p, a in said:
        if right_of(standing, WORLDS[known], WORLDS[p]) != a:
            return False
        standing = behind(standing, WORLDS[p], a)
    return True


def least(known, laid, said):
    for size in range(len(said) + 1):
        sets = sorted(itertools.combinations(range(len(said)), size), key=number_of)
        for struck in sets:
            if all_right(known, laid, [entry for i, entry in enumerate(said) if i not in struck]):
                return list(struck)


def layings(letters, known, said):
    return [b for b in range(1, 2 ** 2 ** letters) if all_right(known, b, said)]


def knowings(letters, laid, said):
    return [k for k in range(1, 2 ** 2 ** letters) if all_right(k, laid, said)]


def counted(found):
    return [len(found)] + list(found)


class Second:
    """The whole program again: one object, and a method for each call."""

    def __init__(self):
        self.m = None

    def answer(self, call):
        if self.m is None and call[0] != "begin":
            return [-11]
        return getattr(self, call[0])(*call[1:])

    def told(self):
        return Told(self.k, self.b, self.entries)

    def wrong(self, number):
        return number >= 2 ** 2 ** self.m

    def none(self, i):
        return i >= len(self.entries)

    def begin(self, m, k, b):
        if m not in (1, 2, 3) or not 0 < k < 2 ** 2 ** m or b >= 2 ** 2 ** m:
            return [-22]
        if b == 0:
            return [-33]
        self.m, self.k, self.b, self.entries = m, k, b, []
        return [0]

    def said(self, p, a):
        if self.wrong(p) or a > 2:
            return [-22]
        if len(self.entries) == 8:
            return [-28]
        self.entries.append((p, a))
        return [len(self.entries) - 1]

    def unsay(self, i):
        if self.none(i):
            return [-2]
        self.entries = self.entries[:i] + self.entries[i + 1:]
        return [len(self.entries)]

    def otherwise(self, i, a):
        return self.entries[:i] + [(self.entries[i][0], a)] + self.entries[i + 1:]

    def amend(self, i, a):
        if self.none(i) or a > 2:
            return [-2] if self.none(i) else [-22]
        was = self.entries[i][1]
        self.entries = self.otherwise(i, a)
        return [was]

    def lay(self, b):
        if self.wrong(b) or b == 0:
            return [-22] if b else [-33]
        was, self.b = self.b, b
        return [was]

    def know(self, k):
        if self.wrong(k) or k == 0:
            return [-22] if k else [-33]
        was, self.k = self.k, k
        return [was]

    def bad(self):
        return counted(self.told().bad)

    def first(self):
        told = self.told()
        return [told.bad[0], told.right[told.bad[0]], told.kinds[told.bad[0]]] if told.bad else [-33]

    def kind(self, i):
        return [-2] if self.none(i) else [self.told().kinds[i]]

    def caught(self):
        empty = [i for i, standing in enumerate(self.told().stood) if not standing]
        return empty[:1] or [-33]

    def stands(self, i):
        if i > len(self.entries):
            return [-2]
        standing = self.told().stood[i]
        return [len(standing), number_of(standing)]

    def mended(self):
        return counted(mended(self.k, self.b, [p for p, a in self.entries]))

    def differ(self):
        right = self.mended()[1:]
        return counted([i for i in range(len(right)) if right[i] != self.entries[i][1]])

    def least(self):
        return counted(least(self.k, self.b, self.entries))

    def laids(self):
        return [len(layings(self.m, self.k, self.entries))]

    def laid(self, k):
        return layings(self.m, self.k, self.entries)[k:k + 1] or [-33]

    def knowns(self):
        return [len(knowings(self.m, self.b, self.entries))]

    def known(self, k):
        return knowings(self.m, self.b, self.entries)[k:k + 1] or [-33]

    def would(self, i, a):
        if self.none(i) or a > 2:
            return [-2] if self.none(i) else [-22]
        return counted(Told(self.k, self.b, self.otherwise(i, a)).bad)

    def alone(self):
        return counted([i for i, entry in enumerate(self.entries) if Told(self.k, self.b, [entry]).bad])

    def look(self, i):
        return [-2] if self.none(i) else list(self.entries[i])

    def state(self):
        return [self.m, self.k, self.b, len(self.entries)]


def second(*calls):
    """What the second telling answers to a line, one list for each call."""
    program = Second()
    return [program.answer(call) for call in calls]


def some_worlds(source, above):
    """Some worlds, not none; often few, so that something is known."""
    worlds = source.randrange(1, above)
    fewer = worlds & source.randrange(above)
    return fewer or worlds


def drawn(seed, how_many, most=8):
    """Letters, known worlds, what's laid down and up to so many answers; the same ones each time.

    Many are right but for an answer or two: among answers drawn blindly hardly anything is ever right.
    """
    source = random.Random(seed)
    for turn in range(how_many):
        letters = source.choice((1, 2, 3, 3))
        above = 2 ** 2 ** letters
        known, laid = some_worlds(source, above), source.randrange(1, above)
        proposals = [source.randrange(above) for i in range(source.randrange(most + 1))]
        said = list(zip(proposals, mended(known, laid, proposals)))
        for i in source.sample(range(len(said)), min(len(said), source.choice((0, 1, 1, 2, 8)))):
            said[i] = (said[i][0], source.randrange(3))
        yield letters, known, laid, said


def begun(letters, known, laid, said):
    """The calls that tell a disputation."""
    return [("begin", letters, known, laid)] + [("said", p, a) for p, a in said]
