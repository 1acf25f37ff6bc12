"""Promise 3: laids, laid, knowns, known."""

import unittest

from tests.lines import AGAINST, BEGUN, FOLLOWS, HIGHEST, KNOWN_SO, OPEN, told_each, told_of
from tests.worlds import begun, drawn

EVERYTHING = {1: 3, 2: 15, 3: 255}

# How many there are, which one it is, and what sets it instead.
LAYING = ("laids", "laid", "lay")
KNOWING = ("knowns", "known", "know")

# Three letters and eight answers: letters, their opposites, and whether two of them are alike.
EIGHT_DOUBTS = [(p, 2) for p in (170, 204, 240, 85, 51, 15, 102, 60)]


def all_of(begin, said, how_many, which):
    """All that laid or known tells, with one more asked for than there are."""
    size = told_of(begin, said, (how_many,))[0][0]
    return told_each(begin, said, [(which, k) for k in range(size + 1)])


def by_trial(begin, said, setting):
    """What makes all right, found by setting each in its turn."""
    worlds = range(1, EVERYTHING[begin[1]] + 1)
    calls = [call for w in worlds for call in ((setting, w), ("bad",))]
    return [w for w, bad in zip(worlds, told_each(begin, said, calls)[1::2]) if bad == [0]]


class Instead(unittest.TestCase):
    def check(self, begin, said, names, found):
        told = all_of(begin, said, names[0], names[1])
        self.assertEqual(told, [[one] for one in found] + [[-33]], (begin, said, names))
        self.assertEqual(told_of(begin, said, (names[0],)), [[len(found)]])

    def test_no_answers(self):
        for letters, everything in EVERYTHING.items():
            for names in (LAYING, KNOWING):
                self.check(("begin", letters, 1, 1), [], names, list(range(1, everything + 1)))

    def test_one_letter(self):
        # A doubt is right just where both worlds are laid down, and both are known.
        self.check(("begin", 1, 3, 3), [(1, 2)], LAYING, [3])
        self.check(("begin", 1, 3, 3), [(1, 2)], KNOWING, [3])
        self.check(("begin", 1, 1, 3), [(1, 1)], LAYING, [1, 3])
        self.check(("begin", 1, 1, 3), [(1, 1)], KNOWING, [1])

    def test_two_letters(self):
        # {1, 2} is known: it's conceded rightly wherever it isn't against what was laid down.
        self.check(BEGUN, [(KNOWN_SO, 1)], LAYING, [2, 3, 4, 5, 6, 7, 10, 11, 12, 13, 14, 15])
        self.check(BEGUN, [(KNOWN_SO, 1)], KNOWING, [2, 4, 6])
        self.check(BEGUN, [(1, 1)], LAYING, [1])
        self.check(BEGUN, [(OPEN, 2)], KNOWING, [3, 6, 7, 9, 11, 12, 13, 14, 15])

    def test_by_what_stood_then(self):
        # Behind {1, 2}, conceded, {1} alone stands of {0, 1}: of it {1, 3} follows whatever is known.
        self.check(BEGUN, [(KNOWN_SO, 1), (OPEN, 1)], KNOWING, [2, 4, 6])
        self.check(BEGUN, [(KNOWN_SO, 1), (OPEN, 1)], LAYING, [2, 3, 10, 11])

    def test_three_letters_and_eight_answers(self):
        # Doubted rightly is what's so in some of the worlds and not in others.
        open_to_all = [
            worlds for worlds in range(1, 256) if all(worlds & p not in (0, worlds) for p, a in EIGHT_DOUBTS)
        ]
        self.assertGreater(len(open_to_all), 40)
        for names in (LAYING, KNOWING):
            self.check(("begin", 3, 255, 255), EIGHT_DOUBTS, names, open_to_all)
            self.assertEqual(open_to_all, by_trial(("begin", 3, 255, 255), EIGHT_DOUBTS, names[2]))

    def test_what_matters_whatever_is_known(self):
        self.check(("begin", 3, 7, 1), [(1, 1)] * 8, KNOWING, list(range(1, 256)))
        self.check(("begin", 3, 7, 255), [(255, 1), (0, 0)] * 4, KNOWING, list(range(1, 256)))
        self.check(("begin", 3, 7, 255), [(255, 1), (0, 0)] * 4, LAYING, list(range(1, 256)))

    def test_the_last_one_and_one_beyond(self):
        for names in (LAYING, KNOWING):
            for letters, everything in EVERYTHING.items():
                which = names[1]
                told = told_of(("begin", letters, 1, 1), [], (which, 0), (which, everything - 1), (which, everything),
                               (which, 4294967294), (which, HIGHEST))
                self.assertEqual(told, [[1], [everything], [-33], [-33], [-33]], (letters, which))
        told = told_of(BEGUN, [(KNOWN_SO, 1)], ("laid", 11), ("laid", 12), ("laid", HIGHEST), ("known", 2), ("known", 3),
                       ("known", HIGHEST))
        self.assertEqual(told, [[15], [-33], [-33], [6], [-33], [-33]])

    def test_nothing_could_have_been_laid_down(self):
        for said in ([(0, 1)], [(0, 2)], [(15, 0)], [(KNOWN_SO, 1), (KNOWN_SO, 0)], [(OPEN, 1), (OPEN, 2)]):
            self.check(BEGUN, said, LAYING, [])
            self.check(BEGUN, said, KNOWING, [])

    def test_one_caught_with_answers_behind_it(self):
        self.check(BEGUN, [(AGAINST, 1), (FOLLOWS, 1)], KNOWING, [])
        self.check(BEGUN, [(AGAINST, 1), (FOLLOWS, 1)], LAYING, [4, 12])

    def test_all_that_could_be_known(self):
        # Whatever else is known is known with it.
        said = [(KNOWN_SO, 1), (FOLLOWS, 1)]
        found = [told[0] for told in all_of(BEGUN, said, "knowns", "known")[:-1]]
        self.assertEqual([worlds | found[-1] for worlds in found], [found[-1]] * len(found))
        self.assertEqual(found[-1], KNOWN_SO)

    def test_what_is_laid_down_and_known_now_does_not_matter_to_its_own(self):
        for other in (1, 8, 15):
            self.check(("begin", 2, 6, other), [(KNOWN_SO, 1)], LAYING, [2, 3, 4, 5, 6, 7, 10, 11, 12, 13, 14, 15])
            self.check(("begin", 2, other, 3), [(KNOWN_SO, 1)], KNOWING, [2, 4, 6])


class ByTrial(unittest.TestCase):
    def test_drawn_ones(self):
        for letters, known, laid, said in drawn(14, 60):
            begin = begun(letters, known, laid, said)[0]
            for names in (LAYING, KNOWING):
                told = all_of(begin, said, names[0], names[1])
                found = by_trial(begin, said, names[2])
                self.assertEqual(told, [[one] for one in found] + [[-33]], (begin, said, names))
                self.assertEqual(found, sorted(set(found)))


class ChangeNothing(unittest.TestCase):
    def test_what_is_laid_down_and_known_stays(self):
        for call in (("laids",), ("laid", 0), ("laid", 12), ("knowns",), ("known", 0), ("known", 3)):
            told = told_of(BEGUN, [(KNOWN_SO, 1)], call, ("state",), ("bad",), call)
            self.assertEqual(told[1:3], [[2, 6, 3, 1], [0]])
            self.assertEqual(told[0], told[3])
