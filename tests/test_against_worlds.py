"""The program beside another telling of it: sets of worlds, and the document's words one by one."""

import itertools
import random
import unittest

from tests.lines import HIGHEST, NAMES, TAKES, questions, run
from tests.worlds import begun, drawn, second


def asked(letters, known, laid, said):
    """All that's to be asked of a disputation, in lines that are short enough."""
    size = len(said)
    calls = begun(letters, known, laid, said)
    yield calls + questions(size)
    yield calls + [("would", i, a) for i in range(size) for a in range(3)]
    yield calls + [(name, k) for name in ("laid", "known") for k in (0, 1, 2, 3, 5, 11, 14, 15, 30, 80, 254)]


class AgainstWorlds(unittest.TestCase):
    def compare(self, letters, known, laid, said):
        for calls in asked(letters, known, laid, said):
            self.assertEqual(run(*calls), second(*calls), calls)

    def test_one_letter_whole(self):
        entries = list(itertools.product(range(4), range(3)))
        for known, laid, size in itertools.product((1, 2, 3), (1, 2, 3), (0, 1, 2)):
            for said in itertools.product(entries, repeat=size):
                self.compare(1, known, laid, list(said))

    def test_one_letter_whole_with_three_answers(self):
        entries = list(itertools.product(range(4), range(3)))
        for known, laid in itertools.product((1, 2, 3), (1, 2, 3)):
            for said in itertools.product(entries, repeat=3):
                calls = begun(1, known, laid, said) + questions(3)
                self.assertEqual(run(*calls), second(*calls), calls)

    def test_two_letters_whole_with_one_answer(self):
        for known, laid, p, a in itertools.product(range(1, 16), range(1, 16), range(16), range(3)):
            calls = begun(2, known, laid, [(p, a)]) + questions(1)
            self.assertEqual(run(*calls), second(*calls), calls)

    def test_many_answers(self):
        for drawing in drawn(61, 400):
            self.compare(*drawing)


class WholeLines(unittest.TestCase):
    """Fifty calls in any order, all twenty-two among them."""

    def given(self, source, name):
        above = source.choice((4, 16, 256))
        proposition = source.choice((source.randrange(above), source.randrange(above), above, HIGHEST))
        small = source.choice((0, 0, 1, 1, 2, 2, 3, 4, 5, 6, 7, 8, HIGHEST))
        some = source.randrange(0, above)
        return {
            "begin": (source.choice((0, 1, 2, 2, 3, 3, 3, 4)), some, source.randrange(above)),
            "said": (some, source.choice((0, 1, 2, 2, 3))), "lay": (proposition,), "know": (proposition,),
            "laid": (small * source.choice((1, 9)) % (HIGHEST + 1),), "known": (small * source.choice((1, 9)) % (HIGHEST + 1),),
        }.get(name, (small, source.choice((0, 1, 2, 3))))[:TAKES[name]]

    def line(self, source):
        names = list(NAMES) + ["said"] * 18 + [source.choice(NAMES[1:]) for i in range(8)]
        source.shuffle(names)
        calls = [(name,) + self.given(source, name) for name in ["begin", "begin"] + names]
        # A begin in the midst takes away most of what was said: in some lines it comes early.
        if source.randrange(2):
            calls = sorted(calls, key=lambda call: call[0] != "begin")
        return calls[:50]

    def test_fifty_calls(self):
        source = random.Random(22)
        for turn in range(400):
            calls = self.line(source)
            self.assertEqual((len(calls), {call[0] for call in calls}), (50, set(NAMES)))
            self.assertEqual(run(*calls), second(*calls), calls)
