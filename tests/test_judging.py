"""Promise 2: bad, first, kind, caught, stands, alone, look; and promise 4: state."""

import unittest

from tests.lines import AGAINST, BEGUN, FOLLOWS, HIGHEST, KNOWN_NOT, KNOWN_SO, OPEN, last, run


class Kind(unittest.TestCase):
    def test_each_proposition_and_each_answer(self):
        for proposed, by_answer in (
            (FOLLOWS, (1, 0, 3)), (AGAINST, (0, 2, 3)), (KNOWN_SO, (4, 0, 4)), (KNOWN_NOT, (0, 4, 4)), (OPEN, (4, 4, 0)),
        ):
            for answer, told in enumerate(by_answer):
                self.assertEqual(last(BEGUN, ("said", proposed, answer), ("kind", 0)), [told], (proposed, answer))

    def test_what_stands_goes_before_what_is_known(self):
        # {0} is laid down, and is known not to be so.
        told = run(("begin", 1, 2, 1), ("said", 1, 0), ("kind", 0), ("amend", 0, 1), ("kind", 0))
        self.assertEqual(told[2:], [[1], [0], [0]])

    def test_when_nothing_stands_everything_follows(self):
        caught = [BEGUN, ("said", AGAINST, 1)]
        for proposed in (0, FOLLOWS, AGAINST, KNOWN_SO, KNOWN_NOT, OPEN, 15):
            for answer, told in enumerate((1, 0, 3)):
                self.assertEqual(last(*caught, ("said", proposed, answer), ("kind", 1)), [told], (proposed, answer))

    def test_what_is_so_always_or_never(self):
        for answer, always, never in ((0, 1, 0), (1, 0, 2), (2, 3, 3)):
            for letters, everything in ((1, 3), (2, 15), (3, 255)):
                begun = ("begin", letters, everything, everything)
                self.assertEqual(last(begun, ("said", everything, answer), ("kind", 0)), [always])
                self.assertEqual(last(begun, ("said", 0, answer), ("kind", 0)), [never])

    def test_by_what_stood_then(self):
        # {1, 3} doesn't matter at first; once {0} is denied, {1} alone stands and it follows.
        told = run(BEGUN, ("said", OPEN, 2), ("said", 1, 0), ("said", OPEN, 2), ("kind", 0), ("kind", 1), ("kind", 2))
        self.assertEqual(told[4:], [[0], [0], [3]])

    def test_no_answer_the_last_and_one_beyond(self):
        told = run(BEGUN, ("kind", 0), ("said", OPEN, 2), ("said", AGAINST, 1), ("kind", 1), ("kind", 2), ("kind", HIGHEST))
        self.assertEqual(told[1:], [[-2], [0], [1], [2], [-2], [-2]])


class Bad(unittest.TestCase):
    def test_no_answers(self):
        self.assertEqual(last(BEGUN, ("bad",)), [0])

    def test_all_right(self):
        self.assertEqual(last(BEGUN, ("said", OPEN, 2), ("said", FOLLOWS, 1), ("said", AGAINST, 0), ("bad",)), [0])

    def test_how_many_then_these_rising(self):
        told = last(BEGUN, ("said", OPEN, 1), ("said", FOLLOWS, 1), ("said", AGAINST, 2), ("said", FOLLOWS, 0), ("bad",))
        self.assertEqual(told, [3, 0, 2, 3])

    def test_all_eight(self):
        told = last(BEGUN, *[("said", FOLLOWS, 2)] * 8, ("bad",))
        self.assertEqual(told, [8, 0, 1, 2, 3, 4, 5, 6, 7])

    def test_a_bad_answer_stands_for_those_behind_it(self):
        # {1, 3} conceded is bad, but behind it it follows.
        self.assertEqual(last(BEGUN, ("said", OPEN, 1), ("said", OPEN, 1), ("bad",)), [1, 0])

    def test_the_same_proposed_twice_answered_otherwise(self):
        told = run(BEGUN, ("said", KNOWN_SO, 1), ("said", KNOWN_SO, 0), ("bad",), ("kind", 1), ("caught",))
        self.assertEqual(told[3:], [[1, 1], [1], [2]])

    def test_what_is_known_does_not_stand(self):
        # A doubt leaves what stands as it is, so the same is doubted rightly again.
        self.assertEqual(last(BEGUN, ("said", OPEN, 2), ("said", OPEN, 2), ("bad",)), [0])

    def test_by_another_laying_down_and_another_knowledge(self):
        told = run(BEGUN, ("said", OPEN, 2), ("bad",), ("lay", 2), ("bad",), ("lay", 3), ("know", 2), ("bad",))
        self.assertEqual(told[2:], [[0], [3], [1, 0], [2], [6], [1, 0]])


class First(unittest.TestCase):
    def test_all_is_right(self):
        self.assertEqual(last(BEGUN, ("first",)), [-33])
        self.assertEqual(last(BEGUN, ("said", FOLLOWS, 1), ("first",)), [-33])

    def test_the_first_bad_then_the_right_one_then_its_kind(self):
        right = [("said", FOLLOWS, 1), ("said", OPEN, 2)]
        for proposed, answer, told in (
            (FOLLOWS, 0, [2, 1, 1]), (AGAINST, 1, [2, 0, 2]), (FOLLOWS, 2, [2, 1, 3]), (AGAINST, 2, [2, 0, 3]),
            (KNOWN_SO, 0, [2, 1, 4]), (KNOWN_NOT, 2, [2, 0, 4]), (OPEN, 1, [2, 2, 4]),
        ):
            self.assertEqual(last(BEGUN, *right, ("said", proposed, answer), ("said", FOLLOWS, 2), ("first",)), told)

    def test_at_the_first_answer(self):
        self.assertEqual(last(BEGUN, ("said", AGAINST, 1), ("said", AGAINST, 0), ("first",)), [0, 0, 2])

    def test_is_judged_by_what_stood_then(self):
        self.assertEqual(last(BEGUN, ("said", KNOWN_SO, 1), ("said", OPEN, 0), ("first",)), [1, 1, 1])


class Caught(unittest.TestCase):
    def test_something_always_stands(self):
        self.assertEqual(last(BEGUN, ("caught",)), [-33])
        self.assertEqual(last(BEGUN, ("said", FOLLOWS, 2), ("said", OPEN, 0), ("caught",)), [-33])

    def test_at_the_first(self):
        self.assertEqual(last(BEGUN, ("said", AGAINST, 1), ("caught",)), [1])
        self.assertEqual(last(BEGUN, ("said", FOLLOWS, 0), ("caught",)), [1])

    def test_answers_behind_it(self):
        behind = [("said", FOLLOWS, 1), ("said", AGAINST, 0), ("said", OPEN, 2)]
        self.assertEqual(last(BEGUN, ("said", AGAINST, 1), *behind, ("caught",)), [1])
        self.assertEqual(last(BEGUN, ("said", OPEN, 2), ("said", AGAINST, 1), *behind, ("caught",)), [2])

    def test_at_the_eighth(self):
        self.assertEqual(last(BEGUN, *[("said", OPEN, 2)] * 7, ("said", 0, 1), ("caught",)), [8])

    def test_not_by_a_doubt(self):
        self.assertEqual(last(BEGUN, ("said", AGAINST, 2), ("said", 0, 2), ("caught",)), [-33])

    def test_no_more_when_the_answer_is_amended_or_struck_out(self):
        caught = [BEGUN, ("said", AGAINST, 1)]
        self.assertEqual(last(*caught, ("amend", 0, 0), ("caught",)), [-33])
        self.assertEqual(last(*caught, ("unsay", 0), ("caught",)), [-33])


class Stands(unittest.TestCase):
    def test_what_was_laid_down_at_first(self):
        for laid, worlds in ((1, 1), (128, 1), (6, 2), (255, 8), (254, 7)):
            self.assertEqual(last(("begin", 3, 1, laid), ("stands", 0)), [worlds, laid])

    def test_behind_each_answer(self):
        told = run(("begin", 3, 1, 255), ("said", 127, 1), ("said", 3, 0), ("said", 9, 2), ("said", 120, 1), ("said", 120, 0),
                   ("stands", 0), ("stands", 1), ("stands", 2), ("stands", 3), ("stands", 4), ("stands", 5))
        self.assertEqual(told[6:], [[8, 255], [7, 127], [5, 124], [5, 124], [4, 120], [0, 0]])

    def test_as_many_as_there_are_and_one_more(self):
        told = run(BEGUN, ("stands", 0), ("stands", 1), ("said", 1, 1), ("stands", 1), ("stands", 2), ("stands", HIGHEST))
        self.assertEqual(told[1:], [[2, 3], [-2], [0], [1, 1], [-2], [-2]])

    def test_eight_answers(self):
        told = run(BEGUN, *[("said", 1, 1)] * 8, ("stands", 8), ("stands", 9))
        self.assertEqual(told[9:], [[1, 1], [-2]])


class Alone(unittest.TestCase):
    def test_no_answers(self):
        self.assertEqual(last(BEGUN, ("alone",)), [0])

    def test_each_proposition_and_each_answer(self):
        for proposed, right in ((FOLLOWS, 1), (AGAINST, 0), (KNOWN_SO, 1), (KNOWN_NOT, 0), (OPEN, 2), (0, 0), (15, 1)):
            for answer in range(3):
                told = last(BEGUN, ("said", proposed, answer), ("alone",))
                self.assertEqual(told, [0] if answer == right else [1, 0], (proposed, answer))

    def test_what_was_answered_before_does_not_count(self):
        # Once {1, 2} is conceded {1, 3} follows; by what was laid down alone it's to be doubted.
        for answer, alone, bad in ((2, [0], [1, 1]), (1, [1, 1], [0]), (0, [1, 1], [1, 1])):
            told = run(BEGUN, ("said", KNOWN_SO, 1), ("said", OPEN, answer), ("alone",), ("bad",))
            self.assertEqual(told[3:], [alone, bad], answer)

    def test_behind_where_one_is_caught(self):
        told = run(BEGUN, ("said", AGAINST, 1), ("said", AGAINST, 0), ("said", FOLLOWS, 1), ("said", 0, 1), ("alone",), ("bad",))
        self.assertEqual(told[5:], [[2, 0, 3], [2, 0, 1]])

    def test_one_and_three_letters(self):
        told = run(("begin", 1, 2, 3), ("said", 1, 0), ("said", 1, 2), ("said", 3, 1), ("said", 0, 2), ("alone",))
        self.assertEqual(told[-1], [2, 1, 3])
        # Known and laid down is that letter 0 is so; of letter 1 nothing.
        told = run(("begin", 3, 170, 170), ("said", 204, 1), ("said", 204, 2), ("said", 85, 1), ("said", 238, 1), ("alone",))
        self.assertEqual(told[-1], [2, 0, 2])

    def test_all_eight_rising(self):
        self.assertEqual(last(BEGUN, *[("said", FOLLOWS, 2)] * 8, ("alone",)), [8, 0, 1, 2, 3, 4, 5, 6, 7])

    def test_by_another_laying_down_and_another_knowledge(self):
        told = run(BEGUN, ("said", OPEN, 2), ("alone",), ("lay", 2), ("alone",), ("lay", 3), ("know", 2), ("alone",))
        self.assertEqual(told[2:], [[0], [3], [1, 0], [2], [6], [1, 0]])


class Look(unittest.TestCase):
    def test_what_was_proposed_then_what_it_was_answered(self):
        for letters, said in ((1, [(3, 0), (0, 1), (2, 2)]), (2, [(15, 2), (9, 0)]), (3, [(255, 1), (128, 2), (0, 0), (77, 1)])):
            told = run(("begin", letters, 1, 1), *[("said", p, a) for p, a in said], *[("look", i) for i in range(len(said))])
            self.assertEqual(told[1 + len(said):], [[p, a] for p, a in said])

    def test_no_answer_the_last_and_one_beyond(self):
        told = run(BEGUN, ("look", 0), ("said", OPEN, 2), ("said", AGAINST, 1), ("look", 1), ("look", 2), ("look", HIGHEST))
        self.assertEqual(told[1:], [[-2], [0], [1], [12, 1], [-2], [-2]])

    def test_eight_answers(self):
        told = run(BEGUN, *[("said", p, 1) for p in range(8)], ("look", 7), ("look", 8))
        self.assertEqual(told[9:], [[7, 1], [-2]])

    def test_behind_what_changes_it(self):
        told = run(BEGUN, ("said", 4, 0), ("said", 5, 1), ("said", 6, 2), ("amend", 1, 2), ("look", 1), ("unsay", 0),
                   ("look", 0), ("look", 1), ("look", 2), BEGUN, ("look", 0))
        self.assertEqual(told[4:], [[1], [5, 2], [2], [5, 2], [6, 2], [-2], [0], [-2]])


class State(unittest.TestCase):
    def test_letters_then_known_worlds_then_what_was_laid_down_then_how_many_answers(self):
        self.assertEqual(last(("begin", 1, 2, 3), ("state",)), [1, 2, 3, 0])
        self.assertEqual(last(("begin", 2, 6, 9), ("said", 1, 1), ("state",)), [2, 6, 9, 1])
        self.assertEqual(last(("begin", 3, 255, 128), *[("said", 1, 1)] * 8, ("state",)), [3, 255, 128, 8])

    def test_behind_what_changes_it(self):
        told = run(BEGUN, ("said", 1, 1), ("said", 2, 1), ("lay", 8), ("state",), ("know", 9), ("state",), ("unsay", 1),
                   ("state",), ("amend", 0, 0), ("state",), ("begin", 3, 200, 100), ("state",))
        self.assertEqual(told[4::2], [[2, 6, 8, 2], [2, 9, 8, 2], [2, 9, 8, 1], [2, 9, 8, 1], [3, 200, 100, 0]])

    def test_a_refused_begin_does_not_show(self):
        told = run(BEGUN, ("begin", 3, 0, 1), ("state",), ("begin", 1, 1, 0), ("state",))
        self.assertEqual(told[1:], [[-22], [2, 6, 3, 0], [-33], [2, 6, 3, 0]])
