"""The interface, and what DOC.md says ahead of the promises."""

import contextlib
import io
import unittest

from tests.lines import HIGHEST, NAMES, TAKES, flat, run
from wrongturn.disputation import NotBuilt, answers

FIFTY = [("begin", 3, 170, 255)] + [
    call
    for i in range(7)
    for call in (("said", 20 * i + 7, i % 3), ("bad",), ("first",), ("kind", i), ("caught",), ("stands", i + 1), ("unsay", 99))
]


class Framing(unittest.TestCase):
    def test_the_empty_list(self):
        self.assertEqual(answers([]), [])

    def test_numbers_as_they_stand(self):
        calls = [10, 0, 0, 2, 6, 3, 1, 7, 1, 1, 12, 1, 6, 7, 8, 1, 9, 10, 2, 3, 1, 0, 2, 0, 4, 5, 5, 9, 1, 16, 0]
        told = [1, -11, 1, 0, 1, 0, 1, 1, 2, 1, 1, 3, 1, 0, 2, 1, 2, 1, 2, 2, 0, 0, 1, 1, 1, 1, 1, 3, 1, 6, 1, -22]
        self.assertEqual(answers(calls), told)

    def test_the_package_and_its_function_are_where_the_interface_says(self):
        import wrongturn.disputation
        self.assertEqual(wrongturn.disputation.answers(calls=[6]), [1, -11])


class BeforeABegin(unittest.TestCase):
    def test_every_other_call(self):
        for given in (0, 1, HIGHEST):
            calls = [(name,) + (given,) * TAKES[name] for name in NAMES if name != "begin"]
            self.assertEqual(run(*calls), [[-11]] * 21)
            self.assertEqual(run(*reversed(calls)), [[-11]] * 21)

    def test_every_other_call_behind_refused_begins(self):
        calls = [(name,) + (1,) * TAKES[name] for name in NAMES if name != "begin"]
        refused = [("begin", 0, 1, 1), ("begin", 4, 1, 1), ("begin", 2, 0, 1), ("begin", 2, 16, 1), ("begin", 2, 1, 0)]
        self.assertEqual(run(*refused, *calls), [[-22]] * 4 + [[-33]] + [[-11]] * 21)

    def test_a_begin_that_is_accepted_ends_it(self):
        told = run(("bad",), ("begin", 2, 1, 0), ("said", 1, 1), ("begin", 2, 1, 1), ("said", 1, 1))
        self.assertEqual(told, [[-11], [-33], [-11], [0], [0]])

    def test_behind_it_what_is_not_built_is_not_answered(self):
        for name in NAMES[11:]:
            with self.assertRaises(NotBuilt):
                run(("begin", 2, 1, 1), (name,) + (0,) * TAKES[name])


class WholeLists(unittest.TestCase):
    def test_fifty_calls(self):
        told = run(*FIFTY)
        self.assertEqual(len(told), 50)
        self.assertEqual(told[0], [0])
        self.assertEqual(told[1::7], [[i] for i in range(7)])
        self.assertEqual(told[7::7], [[-2]] * 7)
        self.assertEqual(told[-6:-1], [[5, 0, 1, 4, 5, 6], [0, 2, 4], [1], [7], [0, 0]])

    def test_fifty_questions(self):
        self.assertEqual(answers([0, 1, 1, 1] + [6] * 49), [1, 0] + [1, 0] * 49)

    def test_the_greatest_numbers(self):
        for name in NAMES[1:11]:
            if TAKES[name] > 0:
                told = run(("begin", 3, 255, 255), (name,) + (HIGHEST,) * TAKES[name], ("begin",) + (HIGHEST,) * 3)
                self.assertEqual(told[1:], [[-22 if name in ("said", "lay", "know") else -2], [-22]], name)

    def test_what_is_handed_in_is_as_it_was(self):
        calls = flat(FIFTY)
        kept = list(calls)
        answers(calls)
        self.assertEqual(calls, kept)

    def test_twice_one_behind_another(self):
        self.assertEqual(answers(flat(FIFTY)), answers(flat(FIFTY)))

    def test_nothing_is_kept(self):
        answers(flat(FIFTY))
        self.assertEqual(answers([6]), [1, -11])

    def test_each_time_another_list_is_given_back(self):
        told = answers([0, 1, 1, 1, 6])
        told.append(5)
        self.assertEqual(answers([0, 1, 1, 1, 6]), [1, 0, 1, 0])

    def test_whole_numbers_alone(self):
        told = answers(flat(FIFTY))
        self.assertIs(type(told), list)
        self.assertEqual({type(number) for number in told}, {int})

    def test_prints_nothing(self):
        out, err = io.StringIO(), io.StringIO()
        with contextlib.redirect_stdout(out), contextlib.redirect_stderr(err):
            answers(flat(FIFTY))
        self.assertEqual(out.getvalue() + err.getvalue(), "")
