"""Promise 3: mended, differ, least, would."""

import unittest

from tests.lines import AGAINST, BEGUN, FOLLOWS, HIGHEST, KNOWN_NOT, KNOWN_SO, OPEN, run, told_of


class MendedAndDiffer(unittest.TestCase):
    def check(self, begin, said, mended, differ, bad):
        told = told_of(begin, said, ("mended",), ("differ",), ("bad",))
        self.assertEqual(told, [[len(mended)] + mended, [len(differ)] + differ, [len(bad)] + bad])

    def test_no_answers(self):
        for letters in (1, 2, 3):
            self.check(("begin", letters, 1, 1), [], [], [], [])

    def test_each_proposition_and_each_answer(self):
        for proposed, right in ((FOLLOWS, 1), (AGAINST, 0), (KNOWN_SO, 1), (KNOWN_NOT, 0), (OPEN, 2), (0, 0), (15, 1)):
            for answer in range(3):
                wrong = [] if answer == right else [0]
                self.check(BEGUN, [(proposed, answer)], [right], wrong, wrong)

    def test_one_letter(self):
        # Known is that it isn't so: {0} is conceded, and behind it follows.
        self.check(("begin", 1, 1, 3), [(1, 0), (1, 0), (2, 1)], [1, 1, 0], [0, 1, 2], [0])
        self.check(("begin", 1, 3, 3), [(1, 2), (2, 2), (1, 1)], [2, 2, 2], [2], [2])

    def test_two_letters_by_what_was_answered_as_told(self):
        # Denied, {1, 2} leaves {0}, against which {1, 3} is; conceded, it leaves {1}, of which it follows.
        self.check(BEGUN, [(KNOWN_SO, 0), (OPEN, 0)], [1, 1], [0, 1], [0])
        self.check(BEGUN, [(KNOWN_SO, 0), (OPEN, 1)], [1, 1], [0], [0, 1])

    def test_three_letters(self):
        # Known is that letter 0 is so, which was denied.
        said = [(170, 0), (15, 2), (10, 1), (85, 1)]
        self.check(("begin", 3, 170, 255), said, [1, 2, 2, 0], [0, 2, 3], [0, 2])

    def test_behind_where_one_is_caught(self):
        # By what stood everything follows there; as it should have gone, nothing of the kind.
        self.check(BEGUN, [(AGAINST, 1), (AGAINST, 1), (OPEN, 1), (0, 1), (15, 1)], [0, 0, 2, 0, 1], [0, 1, 2, 3], [0])

    def test_the_same_proposed_twice_answered_otherwise(self):
        self.check(BEGUN, [(KNOWN_SO, 1), (KNOWN_SO, 0)], [1, 1], [1], [1])
        self.check(BEGUN, [(OPEN, 2), (OPEN, 1)], [2, 2], [1], [1])

    def test_right_but_for_one_word(self):
        said = [(OPEN, 2), (FOLLOWS, 1), (AGAINST, 0), (KNOWN_NOT, 0), (OPEN, 1)]
        right = [2, 1, 0, 0, 1]
        self.check(BEGUN, said, right, [], [])
        for i in range(5):
            for answer in range(3):
                if answer != right[i]:
                    amended = told_of(BEGUN, said, ("amend", i, answer), ("mended",), ("differ",))
                    self.assertEqual(amended[1:], [[5] + right, [1, i]])

    def test_eight_answers(self):
        self.check(BEGUN, [(FOLLOWS, 2)] * 8, [1] * 8, list(range(8)), list(range(8)))

    def test_by_another_laying_down_and_another_knowledge(self):
        told = told_of(BEGUN, [(OPEN, 2)], ("mended",), ("lay", 2), ("mended",), ("differ",), ("lay", 3), ("know", 5),
                       ("mended",), ("differ",))
        self.assertEqual(told, [[1, 2], [3], [1, 1], [1, 0], [2], [6], [1, 0], [1, 0]])


class Least(unittest.TestCase):
    def check(self, begin, said, least):
        self.assertEqual(told_of(begin, said, ("least",)), [[len(least)] + least], said)

    def test_no_answers(self):
        self.check(BEGUN, [], [])

    def test_none_is_to_be_struck_out(self):
        self.check(BEGUN, [(OPEN, 2), (FOLLOWS, 1), (AGAINST, 0)], [])
        self.check(("begin", 1, 1, 3), [(1, 1), (2, 0)], [])
        self.check(("begin", 3, 255, 255), [(170, 2), (204, 2), (240, 2), (85, 2), (51, 2), (15, 2), (0, 0), (255, 1)], [])

    def test_one_bad_answer(self):
        for i in range(3):
            said = [(OPEN, 2), (FOLLOWS, 1), (AGAINST, 0)]
            said[i] = (FOLLOWS, 2)
            self.check(BEGUN, said, [i])

    def test_fewer_than_are_bad(self):
        # Behind the first, which is bad, the doubts are bad too; without it they are right.
        self.assertEqual(told_of(BEGUN, [(OPEN, 1), (OPEN, 2), (OPEN, 2)], ("bad",)), [[3, 0, 1, 2]])
        self.check(BEGUN, [(OPEN, 1), (OPEN, 2), (OPEN, 2)], [0])

    def test_more_than_are_bad(self):
        # What's right behind a bad answer needn't be right without it.
        self.assertEqual(told_of(BEGUN, [(OPEN, 1), (OPEN, 1)], ("bad",)), [[1, 0]])
        self.check(BEGUN, [(OPEN, 1), (OPEN, 1)], [0, 1])

    def test_a_right_answer_in_the_place_of_bad_ones(self):
        # Conceded rightly, {1, 2} leaves {1}; the three doubts behind it are right without it.
        self.check(BEGUN, [(KNOWN_SO, 1), (OPEN, 2), (5, 2), (OPEN, 2)], [0])

    def test_of_two_that_have_as_few_the_one_with_the_lesser_number(self):
        self.check(BEGUN, [(KNOWN_SO, 1), (OPEN, 2)], [0])
        self.check(BEGUN, [(FOLLOWS, 1), (KNOWN_SO, 1), (OPEN, 2)], [1])

    def test_the_lesser_number_is_not_the_one_that_begins_earlier(self):
        # Both {0, 3} and {1, 2} leave all right; they count 9 and 6.
        said = [(14, 1), (5, 2), (10, 2), (2, 1)]
        for struck, bad in (((3, 0), [0]), ((2, 1), [0]), ((1, 0), [1, 1]), ((2, 0), [1, 1]), ((0,), [1, 2]), ((3,), [2, 1, 2])):
            told = told_of(BEGUN, said, *[("unsay", i) for i in struck], ("bad",))
            self.assertEqual(told[-1], bad, struck)
        self.check(BEGUN, said, [1, 2])

    def test_one_caught_at_the_first_with_answers_behind_it(self):
        self.check(BEGUN, [(AGAINST, 1), (FOLLOWS, 1), (AGAINST, 0)], [0])
        self.check(BEGUN, [(AGAINST, 1), (0, 1), (AGAINST, 1)], [0, 1, 2])

    def test_eight_answers(self):
        self.check(BEGUN, [(FOLLOWS, 2)] * 8, list(range(8)))
        self.check(BEGUN, [(FOLLOWS, 1)] * 7 + [(FOLLOWS, 2)], [7])
        self.check(("begin", 3, 170, 255), [(170, 2)] + [(204, 2)] * 7, [0])
        self.check(("begin", 3, 255, 255), [(170, 2)] * 7 + [(170, 1)], [7])
        self.check(("begin", 3, 255, 255), [(170, 1)] + [(170, 2)] * 7, [0])
        self.check(("begin", 3, 128, 255), [(240, 1)] + [(15, 2)] * 3 + [(240, 1)] * 4, [1, 2, 3])


class Would(unittest.TestCase):
    SAID = [(OPEN, 1), (OPEN, 2), (OPEN, 2)]

    def test_each_answer_and_each_way(self):
        for i, by_answer in (
            (0, ([3, 0, 1, 2], [3, 0, 1, 2], [0])), (1, ([3, 0, 1, 2], [2, 0, 2], [3, 0, 1, 2])),
            (2, ([3, 0, 1, 2], [2, 0, 1], [3, 0, 1, 2])),
        ):
            for answer, bad in enumerate(by_answer):
                self.assertEqual(told_of(BEGUN, self.SAID, ("would", i, answer)), [bad], (i, answer))

    def test_one_and_three_letters(self):
        told = told_of(("begin", 1, 1, 3), [(1, 0), (2, 0)], ("would", 0, 1), ("would", 0, 2), ("would", 1, 1))
        self.assertEqual(told, [[0], [1, 0], [1, 0]])
        told = told_of(("begin", 3, 170, 255), [(170, 0), (15, 2), (10, 1), (85, 1)], ("would", 0, 1), ("would", 2, 0))
        self.assertEqual(told, [[2, 2, 3], [1, 0]])

    def test_as_it_was_it_is_what_bad_tells(self):
        for i, (proposed, answer) in enumerate(self.SAID):
            told = told_of(BEGUN, self.SAID, ("would", i, answer), ("bad",))
            self.assertEqual(told[0], told[1])

    def test_is_what_bad_tells_when_it_is_amended(self):
        for i in range(3):
            for answer in range(3):
                told = told_of(BEGUN, self.SAID, ("would", i, answer), ("amend", i, answer), ("bad",))
                self.assertEqual(told[0], told[2])

    def test_right_but_for_one_word(self):
        self.assertEqual(told_of(BEGUN, [(OPEN, 2), (AGAINST, 1), (FOLLOWS, 1)], ("would", 1, 0)), [[0]])

    def test_no_answer_the_last_and_one_beyond(self):
        told = run(BEGUN, ("would", 0, 1), ("said", OPEN, 2), ("said", AGAINST, 1), ("would", 1, 0), ("would", 2, 0),
                   ("would", HIGHEST, 0))
        self.assertEqual(told[1:], [[-2], [0], [1], [0], [-2], [-2]])

    def test_eight_answers(self):
        told = told_of(BEGUN, [(FOLLOWS, 1)] * 8, ("would", 7, 2), ("would", 8, 2), ("would", 0, 0))
        self.assertEqual(told, [[1, 7], [-2], [1, 0]])

    def test_answers_2_and_3(self):
        told = told_of(BEGUN, [(OPEN, 1)], ("would", 0, 2), ("would", 0, 3), ("would", 0, HIGHEST))
        self.assertEqual(told, [[0], [-22], [-22]])

    def test_no_such_answer_goes_before_what_is_not_right(self):
        told = run(BEGUN, ("would", 0, 3), ("said", OPEN, 2), ("would", 1, 3), ("would", HIGHEST, HIGHEST), ("would", 0, 3))
        self.assertEqual(told[1:], [[-2], [0], [-2], [-2], [-22]])

    def test_changes_nothing(self):
        told = told_of(BEGUN, self.SAID, ("would", 0, 2), ("look", 0), ("bad",), ("would", 0, 3), ("look", 0), ("bad",))
        self.assertEqual(told, [[0], [10, 1], [3, 0, 1, 2], [-22], [10, 1], [3, 0, 1, 2]])
