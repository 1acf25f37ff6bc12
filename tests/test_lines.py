"""The interface, and what DOC.md says ahead of the promises."""

import contextlib
import io
import unittest

from tests.lines import HIGHEST, NAMES, TAKES, flat, run
from wrongturn.disputation import answers

# All twenty-two calls. Eight answers, of which the first denies what's known to be so.
FIFTY = [
    ("begin", 3, 170, 255), ("said", 170, 0), ("said", 15, 2), ("said", 10, 1), ("said", 85, 1), ("said", 204, 1),
    ("said", 51, 0), ("said", 0, 0), ("said", 255, 1), ("said", 1, 1), ("state",), ("bad",), ("first",), ("kind", 0),
    ("kind", 2), ("kind", 6), ("kind", 8), ("caught",), ("stands", 1), ("stands", 8), ("stands", 9), ("mended",), ("differ",),
    ("least",), ("laids",), ("laid", 0), ("knowns",), ("known", 0), ("would", 0, 1), ("would", 8, 3), ("would", 7, 3),
    ("alone",), ("look", 0), ("look", 7), ("look", 8), ("unsay", 6), ("amend", 0, 1), ("amend", 2, 2), ("amend", 3, 0),
    ("bad",), ("differ",), ("lay", 170), ("know", 136), ("least",), ("mended",), ("laids",), ("knowns",), ("known", 0),
    ("laid", 127), ("state",),
]


class Held(list):
    """A list that can't be changed, not for a while either."""

    def refuse(self, *given, **named):
        raise AssertionError("what is handed in was changed")

    append = extend = insert = pop = remove = clear = sort = reverse = refuse
    __setitem__ = __delitem__ = __iadd__ = __imul__ = refuse


class Framing(unittest.TestCase):
    def test_the_empty_list(self):
        self.assertEqual(answers([]), [])

    def test_numbers_as_they_stand(self):
        calls = [10, 0, 0, 2, 6, 3, 1, 7, 1, 1, 12, 1, 6, 7, 8, 1, 9, 10, 2, 3, 1, 0, 2, 0, 4, 5, 5, 9, 1, 16, 0]
        told = [1, -11, 1, 0, 1, 0, 1, 1, 2, 1, 1, 3, 1, 0, 2, 1, 2, 1, 2, 2, 0, 0, 1, 1, 1, 1, 1, 3, 1, 6, 1, -22]
        self.assertEqual(answers(calls), told)

    def test_the_package_and_its_function_are_where_the_interface_says(self):
        import wrongturn.disputation
        self.assertEqual(wrongturn.disputation.answers(calls=[6]), [1, -11])


class BeforeABegin(unittest.TestCase):
    def test_every_other_call(self):
        for given in (0, 1, HIGHEST):
            calls = [(name,) + (given,) * TAKES[name] for name in NAMES if name != "begin"]
            self.assertEqual(run(*calls), [[-11]] * 21)
            self.assertEqual(run(*reversed(calls)), [[-11]] * 21)

    def test_every_other_call_behind_refused_begins(self):
        calls = [(name,) + (1,) * TAKES[name] for name in NAMES if name != "begin"]
        refused = [("begin", 0, 1, 1), ("begin", 4, 1, 1), ("begin", 2, 0, 1), ("begin", 2, 16, 1), ("begin", 2, 1, 0)]
        self.assertEqual(run(*refused, *calls), [[-22]] * 4 + [[-33]] + [[-11]] * 21)

    def test_a_begin_that_is_accepted_ends_it(self):
        told = run(("bad",), ("begin", 2, 1, 0), ("said", 1, 1), ("begin", 2, 1, 1), ("said", 1, 1))
        self.assertEqual(told, [[-11], [-33], [-11], [0], [0]])

    def test_behind_it_no_call_answers_so(self):
        for name in NAMES:
            told = run(("begin", 2, 1, 1), (name,) + (0,) * TAKES[name])
            self.assertNotEqual(told[1], [-11], name)


class WholeLists(unittest.TestCase):
    def test_fifty_calls(self):
        told = run(*FIFTY)
        self.assertEqual((len(FIFTY), {call[0] for call in FIFTY}), (50, set(NAMES)))
        self.assertEqual(told[:10], [[0]] + [[i] for i in range(8)] + [[-28]])
        self.assertEqual(told[10:21], [
            [3, 170, 255, 8], [4, 0, 2, 5, 6], [0, 1, 4], [4], [2], [1], [-2], [3], [4, 85], [0, 0], [-2],
        ])
        self.assertEqual(told[21:35], [
            [8, 1, 2, 2, 0, 2, 2, 0, 1], [5, 0, 2, 3, 4, 5], [5, 0, 2, 3, 4, 5], [0], [-33], [0], [-33],
            [4, 2, 3, 5, 6], [-2], [-22], [5, 0, 2, 3, 4, 5], [170, 0], [255, 1], [-2],
        ])
        self.assertEqual(told[35:], [
            [7], [0], [1], [1], [1, 4], [2, 4, 5], [255], [170], [0], [7, 1, 2, 2, 0, 1, 0, 1], [128], [6], [72],
            [255], [3, 136, 170, 7],
        ])

    def test_each_call_once(self):
        told = run(
            ("begin", 2, 6, 3), ("said", 6, 0), ("said", 10, 0), ("said", 7, 2), ("unsay", 2), ("amend", 1, 1), ("lay", 7),
            ("know", 4), ("bad",), ("first",), ("kind", 1), ("caught",), ("stands", 2), ("mended",), ("differ",), ("least",),
            ("laids",), ("laid", 0), ("knowns",), ("known", 0), ("would", 1, 0), ("alone",), ("look", 1), ("state",),
        )
        self.assertEqual(told[:8], [[0], [0], [1], [2], [2], [0], [3], [6]])
        self.assertEqual(told[8:], [
            [2, 0, 1], [0, 1, 4], [2], [2], [0, 0], [2, 1, 0], [2, 0, 1], [2, 0, 1],
            [1], [8], [0], [-33], [1, 0], [2, 0, 1], [10, 1], [2, 4, 7, 2],
        ])

    def test_fifty_questions(self):
        self.assertEqual(answers([0, 1, 1, 1] + [6] * 49), [1, 0] + [1, 0] * 49)

    def test_the_greatest_numbers(self):
        refusals = {"said": -22, "lay": -22, "know": -22, "laid": -33, "known": -33}
        for name in NAMES[1:]:
            if TAKES[name] > 0:
                told = run(("begin", 3, 255, 255), (name,) + (HIGHEST,) * TAKES[name], ("begin",) + (HIGHEST,) * 3)
                self.assertEqual(told[1:], [[refusals.get(name, -2)], [-22]], name)

    def test_what_is_handed_in_is_as_it_was(self):
        calls = flat(FIFTY)
        kept = list(calls)
        answers(calls)
        self.assertEqual(calls, kept)

    def test_what_is_handed_in_is_not_changed_for_a_while_either(self):
        self.assertEqual(answers(Held(flat(FIFTY))), answers(flat(FIFTY)))

    def test_twice_one_behind_another(self):
        calls = flat(FIFTY)
        self.assertEqual(answers(calls), answers(calls))

    def test_the_longest_lists(self):
        # As many numbers as a list may have, each call with its three.
        self.assertEqual(answers([0, 3, 255, 255] * 50), [1, 0] * 50)
        for number in (13, 14, 16):
            calls = [0, 3, 255, 255] + [1, 170, 2] * 8 + [number] * 41
            self.assertEqual(len(answers(calls)), 2 * 50)

    def test_nothing_is_kept(self):
        answers(flat(FIFTY))
        self.assertEqual(answers([6]), [1, -11])

    def test_each_time_another_list_is_given_back(self):
        told = answers([0, 1, 1, 1, 6])
        told.append(5)
        self.assertEqual(answers([0, 1, 1, 1, 6]), [1, 0, 1, 0])

    def test_whole_numbers_alone(self):
        told = answers(flat(FIFTY))
        self.assertIs(type(told), list)
        self.assertEqual({type(number) for number in told}, {int})

    def test_prints_nothing(self):
        out, err = io.StringIO(), io.StringIO()
        with contextlib.redirect_stdout(out), contextlib.redirect_stderr(err):
            answers(flat(FIFTY))
        self.assertEqual(out.getvalue() + err.getvalue(), "")
