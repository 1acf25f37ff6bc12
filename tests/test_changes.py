"""Promise 1: begin, said, unsay, amend, lay, know."""

import unittest

from tests.lines import HIGHEST, last, questions, run

GREATEST = {1: 3, 2: 15, 3: 255}


def filled(how_many, p=1, a=2):
    return [("said", p, a)] * how_many


class Begin(unittest.TestCase):
    def test_answers_0(self):
        self.assertEqual(run(("begin", 2, 6, 9)), [[0]])

    def test_letters_are_1_to_3(self):
        for letters, told in ((0, -22), (1, 0), (2, 0), (3, 0), (4, -22), (255, -22), (HIGHEST, -22)):
            self.assertEqual(run(("begin", letters, 1, 1)), [[told]], letters)

    def test_known_worlds_at_the_greatest_proposition_and_above(self):
        for letters, greatest in GREATEST.items():
            self.assertEqual(run(("begin", letters, greatest, 1)), [[0]])
            self.assertEqual(run(("begin", letters, greatest + 1, 1)), [[-22]])
            self.assertEqual(run(("begin", letters, HIGHEST, 1)), [[-22]])

    def test_laid_down_at_the_greatest_proposition_and_above(self):
        for letters, greatest in GREATEST.items():
            self.assertEqual(run(("begin", letters, 1, greatest)), [[0]])
            self.assertEqual(run(("begin", letters, 1, greatest + 1)), [[-22]])
            self.assertEqual(run(("begin", letters, 1, HIGHEST)), [[-22]])

    def test_no_known_world(self):
        self.assertEqual(run(("begin", 2, 0, 1)), [[-22]])

    def test_nothing_laid_down(self):
        for letters in GREATEST:
            self.assertEqual(run(("begin", letters, 1, 0)), [[-33]])

    def test_what_is_not_right_goes_before_what_cannot_be(self):
        for call in (("begin", 0, 1, 0), ("begin", 4, 1, 0), ("begin", 1, 4, 0), ("begin", 2, 0, 0)):
            self.assertEqual(run(call), [[-22]], call)

    def test_keeps_what_is_known_and_laid_down(self):
        self.assertEqual(run(("begin", 2, 6, 9), ("lay", 1), ("know", 1)), [[0], [9], [6]])

    def test_has_no_answers(self):
        told = run(("begin", 2, 6, 9), ("bad",), ("stands", 0), ("stands", 1), ("unsay", 0))
        self.assertEqual(told, [[0], [0], [2, 9], [-2], [-2]])

    def test_a_second_begin_begins_anew(self):
        told = run(
            ("begin", 1, 1, 1), ("said", 1, 0), ("begin", 3, 200, 255), ("bad",), ("caught",),
            ("stands", 0), ("stands", 1), ("said", 255, 1), ("lay", 7), ("know", 7),
        )
        self.assertEqual(told[2:], [[0], [0], [-33], [8, 255], [-2], [0], [255], [200]])

    def test_a_second_begin_may_have_fewer_letters(self):
        told = run(("begin", 3, 1, 1), ("said", 255, 1), ("begin", 1, 1, 1), ("said", 4, 1), ("said", 3, 1))
        self.assertEqual(told[2:], [[0], [-22], [0]])

    def test_a_refused_second_begin_changes_nothing(self):
        before = [("begin", 2, 6, 13), ("said", 5, 1), ("said", 3, 0), ("said", 8, 2)]
        plain = run(*before, *questions(3), ("said", 15, 1), ("said", 16, 1))
        for refused in (("begin", 0, 1, 1), ("begin", 4, 1, 1), ("begin", 1, 1, 4), ("begin", 3, 1, 0),
                        ("begin", 1, 0, 1), ("begin", 1, 4, 1)):
            told = run(*before, refused, *questions(3), ("said", 15, 1), ("said", 16, 1))
            self.assertLess(told[4][0], 0)
            self.assertEqual(told[:4] + told[5:], plain, refused)


class Said(unittest.TestCase):
    def test_answers_its_number(self):
        self.assertEqual(run(("begin", 2, 6, 9), *filled(3)), [[0], [0], [1], [2]])

    def test_propositions_at_the_greatest_and_above(self):
        for letters, greatest in GREATEST.items():
            told = run(("begin", letters, 1, 1), ("said", 0, 2), ("said", greatest, 2),
                       ("said", greatest + 1, 2), ("said", HIGHEST, 2), ("said", 0, 2))
            self.assertEqual(told, [[0], [0], [1], [-22], [-22], [2]])

    def test_answers_are_0_to_2(self):
        told = run(("begin", 1, 1, 1), ("said", 1, 0), ("said", 1, 1), ("said", 1, 2), ("said", 1, 3),
                   ("said", 1, HIGHEST), ("said", 1, 0))
        self.assertEqual(told, [[0], [0], [1], [2], [-22], [-22], [3]])

    def test_the_eighth_and_the_ninth(self):
        self.assertEqual(run(("begin", 1, 1, 1), *filled(9))[8:], [[7], [-28]])

    def test_what_is_not_right_goes_before_too_many(self):
        told = run(("begin", 1, 1, 1), *filled(8), ("said", 4, 0), ("said", 1, 3), ("said", 1, 1))
        self.assertEqual(told[9:], [[-22], [-22], [-28]])

    def test_one_may_be_said_again_when_one_is_struck_out(self):
        told = run(("begin", 1, 1, 1), *filled(8), ("unsay", 3), ("said", 1, 1), ("said", 1, 1))
        self.assertEqual(told[9:], [[7], [7], [-28]])

    def test_it_is_the_last_and_what_it_was_is_kept(self):
        told = run(("begin", 2, 15, 15), ("said", 7, 1), ("said", 3, 0), ("stands", 1), ("stands", 2),
                   ("amend", 0, 2), ("amend", 1, 2))
        self.assertEqual(told[3:], [[3, 7], [1, 4], [1], [0]])

    def test_a_refusal_changes_nothing(self):
        before = [("begin", 2, 6, 13), *filled(7, 5, 1)]
        plain = run(*before, *questions(7))
        for refused in (("said", 16, 1), ("said", 5, 3), ("said", HIGHEST, HIGHEST)):
            told = run(*before, refused, *questions(7))
            self.assertEqual(told[8], [-22])
            self.assertEqual(told[:8] + told[9:], plain)

    def test_the_ninth_changes_nothing(self):
        before = [("begin", 2, 6, 13), *filled(8, 5, 1)]
        told = run(*before, ("said", 2, 1), *questions(8))
        self.assertEqual(told[:9] + told[10:], run(*before, *questions(8)))


class Unsay(unittest.TestCase):
    def test_no_answer_the_last_and_one_beyond(self):
        told = run(("begin", 1, 1, 1), ("unsay", 0), ("said", 1, 1), ("said", 1, 1), ("unsay", 2),
                   ("unsay", HIGHEST), ("unsay", 1), ("unsay", 1), ("unsay", 0), ("unsay", 0))
        self.assertEqual(told, [[0], [-2], [0], [1], [-2], [-2], [1], [-2], [0], [-2]])

    def test_those_behind_it_are_one_less(self):
        for struck in range(3):
            answers = [(7, 1), (3, 0), (14, 2)]
            before = [("said", p, a) for p, a in answers]
            left = [("said", p, a) for i, (p, a) in enumerate(answers) if i != struck]
            told = run(("begin", 2, 6, 15), *before, ("unsay", struck), *questions(2))
            plain = run(("begin", 2, 6, 15), *left, *questions(2))
            self.assertEqual(told[4], [2])
            self.assertEqual(told[5:], plain[3:], struck)

    def test_a_refusal_changes_nothing(self):
        before = [("begin", 2, 6, 13), ("said", 5, 1), ("said", 3, 0)]
        told = run(*before, ("unsay", 2), *questions(2))
        self.assertEqual(told[3], [-2])
        self.assertEqual(told[:3] + told[4:], run(*before, *questions(2)))


class Amend(unittest.TestCase):
    def test_answers_what_it_was(self):
        told = run(("begin", 2, 6, 9), ("said", 1, 0), ("amend", 0, 2), ("amend", 0, 1), ("amend", 0, 1),
                   ("amend", 0, 0), ("amend", 0, 0))
        self.assertEqual(told[2:], [[0], [2], [1], [1], [0]])

    def test_no_answer_the_last_and_one_beyond(self):
        told = run(("begin", 1, 1, 1), ("amend", 0, 1), ("said", 1, 1), ("said", 1, 2), ("amend", 1, 0),
                   ("amend", 2, 0), ("amend", HIGHEST, 0))
        self.assertEqual(told, [[0], [-2], [0], [1], [2], [-2], [-2]])

    def test_answers_2_and_3(self):
        told = run(("begin", 1, 1, 1), ("said", 1, 1), ("amend", 0, 2), ("amend", 0, 3), ("amend", 0, HIGHEST),
                   ("amend", 0, 0))
        self.assertEqual(told, [[0], [0], [1], [-22], [-22], [2]])

    def test_no_such_answer_goes_before_what_is_not_right(self):
        told = run(("begin", 1, 1, 1), ("amend", 0, 3), ("said", 1, 1), ("amend", 1, 3))
        self.assertEqual(told, [[0], [-2], [0], [-2]])

    def test_is_as_if_it_had_been_said_so(self):
        told = run(("begin", 2, 6, 15), ("said", 7, 1), ("said", 3, 0), ("said", 6, 1), ("amend", 1, 1), *questions(3))
        plain = run(("begin", 2, 6, 15), ("said", 7, 1), ("said", 3, 1), ("said", 6, 1), *questions(3))
        self.assertEqual(told[5:], plain[4:])

    def test_a_refusal_changes_nothing(self):
        before = [("begin", 2, 6, 13), ("said", 5, 1), ("said", 3, 0)]
        plain = run(*before, *questions(2))
        for refused in (("amend", 2, 1), ("amend", 1, 3), ("amend", 0, HIGHEST)):
            told = run(*before, refused, *questions(2))
            self.assertLess(told[3][0], 0)
            self.assertEqual(told[:3] + told[4:], plain)


class LayAndKnow(unittest.TestCase):
    def test_answer_what_was(self):
        told = run(("begin", 2, 6, 9), ("lay", 3), ("lay", 12), ("lay", 12), ("know", 1), ("know", 5), ("know", 5))
        self.assertEqual(told, [[0], [9], [3], [12], [6], [1], [5]])

    def test_at_the_greatest_proposition_and_above(self):
        for letters, greatest in GREATEST.items():
            for name in ("lay", "know"):
                told = run(("begin", letters, 1, 1), (name, greatest), (name, greatest + 1), (name, HIGHEST), (name, 1))
                self.assertEqual(told, [[0], [1], [-22], [-22], [greatest]], (letters, name))

    def test_with_no_world(self):
        for name in ("lay", "know"):
            self.assertEqual(run(("begin", 2, 7, 7), (name, 0), (name, 1)), [[0], [-33], [7]], name)

    def test_are_as_if_it_had_begun_so(self):
        answers = [("said", 7, 1), ("said", 3, 0), ("said", 6, 1)]
        told = run(("begin", 2, 6, 15), *answers, ("lay", 10), ("know", 11), *questions(3))
        self.assertEqual(told[6:], run(("begin", 2, 11, 10), *answers, *questions(3))[4:])

    def test_keep_the_answers(self):
        self.assertEqual(last(("begin", 2, 6, 15), *filled(8), ("lay", 1), ("know", 1), ("said", 1, 1)), [-28])

    def test_a_refusal_changes_nothing(self):
        before = [("begin", 2, 6, 13), ("said", 5, 1), ("said", 2, 0)]
        plain = run(*before, *questions(2))
        for refused in (("lay", 0), ("lay", 16), ("know", 0), ("know", 16)):
            told = run(*before, refused, *questions(2))
            self.assertLess(told[3][0], 0)
            self.assertEqual(told[:3] + told[4:], plain, refused)
