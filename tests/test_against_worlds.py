"""The judging beside another way of telling it: sets of worlds, and the document's words one by one."""

import itertools
import random
import unittest

from tests.lines import run

DENIED, CONCEDED, DOUBTED = 0, 1, 2


def worlds_of(number):
    return {world for world in range(8) if number // 2 ** world % 2 == 1}


def number_of(worlds):
    return sum(2 ** world for world in worlds)


class Told:
    """A disputation from its beginning, as the words tell it."""

    def __init__(self, known, laid, said):
        self.known = worlds_of(known)
        self.stood = [worlds_of(laid)]
        self.right = []
        self.kinds = []
        for number, answer in said:
            self.hear(worlds_of(number), answer)

    def hear(self, proposed, answer):
        standing = self.stood[-1]
        follows = all(world in proposed for world in standing)
        against = not follows and all(world not in proposed for world in standing)
        if follows:
            right = CONCEDED
        elif against:
            right = DENIED
        elif self.known <= proposed:
            right = CONCEDED
        elif self.known.isdisjoint(proposed):
            right = DENIED
        else:
            right = DOUBTED
        self.right.append(right)
        if answer == right:
            self.kinds.append(0)
        elif follows and answer == DENIED:
            self.kinds.append(1)
        elif against and answer == CONCEDED:
            self.kinds.append(2)
        elif follows or against:
            self.kinds.append(3)
        else:
            self.kinds.append(4)
        if answer == CONCEDED:
            self.stood.append({world for world in standing if world in proposed})
        elif answer == DENIED:
            self.stood.append({world for world in standing if world not in proposed})
        else:
            self.stood.append(set(standing))

    def answers(self):
        bad = [i for i, kind in enumerate(self.kinds) if kind != 0]
        told = [[len(bad)] + bad]
        told.append([bad[0], self.right[bad[0]], self.kinds[bad[0]]] if bad else [-33])
        empty = [i for i, standing in enumerate(self.stood) if not standing]
        told.append([empty[0]] if empty else [-33])
        told.extend([kind] for kind in self.kinds)
        told.extend([len(standing), number_of(standing)] for standing in self.stood)
        return told


def asked(letters, known, laid, said):
    calls = [("begin", letters, known, laid)] + [("said", p, a) for p, a in said]
    calls += [("bad",), ("first",), ("caught",)]
    calls += [("kind", i) for i in range(len(said))]
    calls += [("stands", i) for i in range(len(said) + 1)]
    return run(*calls)[1 + len(said):]


def many_disputations():
    """Letters, known worlds, what's laid down and up to eight answers, the same ones each time."""
    source = random.Random(61)
    for turn in range(3000):
        letters = source.choice((2, 3))
        above = 2 ** 2 ** letters
        said = [(source.randrange(above), source.choice((0, 1, 2, 2))) for i in range(source.randrange(9))]
        yield letters, source.randrange(1, above), source.randrange(1, above), said


class AgainstWorlds(unittest.TestCase):
    def test_one_letter_whole(self):
        entries = list(itertools.product(range(4), range(3)))
        for known, laid, size in itertools.product((1, 2, 3), (1, 2, 3), (0, 1, 2, 3)):
            for said in itertools.product(entries, repeat=size):
                self.assertEqual(asked(1, known, laid, said), Told(known, laid, said).answers(), (known, laid, said))

    def test_two_letters_whole_with_one_answer(self):
        for known, laid, p, a in itertools.product(range(1, 16), range(1, 16), range(16), range(3)):
            self.assertEqual(asked(2, known, laid, [(p, a)]), Told(known, laid, [(p, a)]).answers(), (known, laid, p, a))

    def test_two_and_three_letters_with_many_answers(self):
        for letters, known, laid, said in many_disputations():
            self.assertEqual(asked(letters, known, laid, said), Told(known, laid, said).answers(), (known, laid, said))


class WhatHolds(unittest.TestCase):
    """Promise 5, as far as these calls reach it."""

    def test_just_one_way_of_answering_is_all_right(self):
        for known, laid, p, q in itertools.product((1, 6, 13), (3, 9, 15), range(16), range(16)):
            right = [
                ways for ways in itertools.product(range(3), repeat=2)
                if asked(2, known, laid, list(zip((p, q), ways)))[0] == [0]
            ]
            self.assertEqual(len(right), 1, (known, laid, p, q))

    def test_one_is_caught_just_by_denying_what_follows_or_conceding_what_is_against_it(self):
        for letters, known, laid, said in many_disputations():
            told = asked(letters, known, laid, said)
            kinds = [part[0] for part in told[3:3 + len(said)]]
            behind = [i + 1 for i, kind in enumerate(kinds) if kind in (1, 2)]
            self.assertEqual(told[2], behind[:1] or [-33], (known, laid, said))
