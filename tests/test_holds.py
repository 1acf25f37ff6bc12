"""Promise 5, over many drawn disputations; and that asking, and what's refused, changes nothing."""

import itertools
import unittest

from tests.lines import HIGHEST, run, shown, told_each, told_of
from tests.worlds import begun, drawn

ASKING = (
    ("mended",), ("differ",), ("least",), ("laids",), ("laid", 0), ("laid", 1), ("laid", HIGHEST), ("knowns",), ("known", 0),
    ("known", 1), ("known", HIGHEST), ("would", 0, 0), ("would", 0, 1), ("would", 0, 2), ("would", 0, 3), ("would", 8, 1),
    ("alone",), ("look", 0), ("look", 8), ("state",),
)


def bad_without(begin, said, struck):
    """What bad answers when these are struck out."""
    return told_of(begin, said, *[("unsay", i) for i in sorted(struck, reverse=True)], ("bad",))[-1]


def split(disputation):
    """A disputation as its begin and what was said."""
    return begun(*disputation)[0], disputation[3]


class WhatHolds(unittest.TestCase):
    def test_just_one_way_of_answering_is_all_right(self):
        for disputation in drawn(1, 120, most=4):
            begin, said = split(disputation)
            proposals = [p for p, a in said]
            ways = itertools.product(range(3), repeat=len(said))
            right = [way for way in ways if told_of(begin, list(zip(proposals, way)), ("bad",)) == [[0]]]
            mended = told_of(begin, said, ("mended",))[0]
            self.assertEqual([[len(said)] + list(way) for way in right], [mended], disputation)

    def test_mended_is_all_right_with_eight_answers_too(self):
        for disputation in drawn(2, 400):
            begin, said = split(disputation)
            mended = told_of(begin, said, ("mended",))[0][1:]
            as_told = [(p, a) for (p, old), a in zip(said, mended)]
            told = told_of(begin, as_told, ("bad",), ("differ",), ("least",), ("caught",), ("first",), ("mended",))
            self.assertEqual(told, [[0], [0], [0], [-33], [-33], [len(said)] + mended], disputation)

    def test_one_is_caught_just_by_denying_what_follows_or_conceding_what_is_against_it(self):
        for disputation in drawn(3, 800):
            begin, said = split(disputation)
            size = len(said)
            told = told_of(begin, said, ("caught",), *[("kind", i) for i in range(size)],
                           *[("stands", i) for i in range(size + 1)])
            standing = [part[0] for part in told[1 + size:]]
            for i in range(size):
                if standing[i] > 0:
                    self.assertEqual(standing[i + 1] == 0, told[1 + i] in ([1], [2]), disputation)
            behind = [i for i, worlds in enumerate(standing) if worlds == 0]
            self.assertEqual(told[0], behind[:1] or [-33], disputation)

    def test_till_the_first_bad_answer_all_went_as_it_should(self):
        for disputation in drawn(4, 800):
            begin, said = split(disputation)
            first, mended, differ = told_of(begin, said, ("first",), ("mended",), ("differ",))
            answered = [a for p, a in said]
            if first == [-33]:
                self.assertEqual((mended[1:], differ), (answered, [0]), disputation)
            else:
                i, right, kind = first
                self.assertEqual(mended[1:1 + i], answered[:i], disputation)
                self.assertEqual((mended[1 + i], differ[1]), (right, i), disputation)
                self.assertNotEqual(right, answered[i], disputation)

    def test_so_few_struck_out_and_no_fewer_leave_all_right(self):
        for disputation in drawn(5, 150):
            begin, said = split(disputation)
            least = told_of(begin, said, ("least",))[0]
            struck = tuple(least[1:])
            self.assertEqual(least[0], len(struck))
            self.assertEqual(bad_without(begin, said, struck), [0], disputation)
            for size in range(len(struck) + 1):
                for others in itertools.combinations(range(len(said)), size):
                    before = size < len(struck) or sum(2 ** i for i in others) < sum(2 ** i for i in struck)
                    if before:
                        self.assertNotEqual(bad_without(begin, said, others), [0], (disputation, others))

    def test_what_two_could_know_they_can_know_together(self):
        for disputation in drawn(6, 80):
            begin, said = split(disputation)
            how_many = told_of(begin, said, ("knowns",))[0][0]
            known = {told[0] for told in told_each(begin, said, [("known", k) for k in range(how_many)])}
            self.assertEqual(len(known), how_many)
            self.assertLessEqual({one | other for one in known for other in known}, known, disputation)

    def test_what_does_not_matter_to_what_stands_does_not_to_what_was_laid_down(self):
        for disputation in drawn(7, 400):
            begin, said = split(disputation)
            told = told_of(begin, said, *[("stands", i) for i in range(len(said))])
            for (count, standing), (p, a) in zip(told, said):
                if standing & p not in (0, standing):
                    self.assertNotIn(begin[3] & p, (0, begin[3]), disputation)


class ChangesNothing(unittest.TestCase):
    def test_asking(self):
        for disputation in drawn(8, 60):
            begin, said = split(disputation)
            kept = told_of(begin, said, *shown(len(said)))
            for call in ASKING:
                told = told_of(begin, said, *shown(len(said)), call, *shown(len(said)))
                self.assertEqual(told[:len(kept)], kept)
                self.assertEqual(told[len(kept) + 1:], kept, (disputation, call))

    def test_asking_all_at_once(self):
        for disputation in drawn(9, 200):
            begin, said = split(disputation)
            kept = told_of(begin, said, *shown(len(said)))
            self.assertEqual(told_of(begin, said, *ASKING, *shown(len(said)))[len(ASKING):], kept, disputation)

    def test_what_is_refused(self):
        for disputation in drawn(10, 200):
            begin, said = split(disputation)
            above, size = 2 ** 2 ** disputation[0], len(said)
            refused = [
                ("begin", 0, 1, 1), ("begin", 4, 1, 1), ("begin", 1, 0, 1), ("begin", 1, 4, 1), ("begin", 1, 1, 4), ("begin", 1, 1, 0),
                ("said", above, 0), ("said", 0, 3), ("unsay", size), ("amend", size, 1), ("amend", 0, 3), ("lay", 0), ("lay", above),
                ("know", 0), ("know", above), ("kind", size), ("stands", size + 1), ("laid", above - 1), ("known", above - 1),
                ("would", size, 1), ("would", 0, 3), ("look", size),
            ]
            told = told_of(begin, said, *refused, *shown(size))
            self.assertTrue(all(len(part) == 1 and part[0] < 0 for part in told[:len(refused)]), (disputation, told))
            self.assertEqual(told[len(refused):], told_of(begin, said, *shown(size)), disputation)

    def test_a_ninth_answer(self):
        begin, said = ("begin", 3, 170, 255), [(p, p % 3) for p in range(20, 28)]
        told = told_of(begin, said, *shown(8), ("said", 1, 1), *shown(8))
        self.assertEqual(told[11], [-28])
        self.assertEqual(told[:11], told[12:])

    def test_no_answer_but_a_refusal_has_a_number_below_0(self):
        for disputation in drawn(11, 200):
            for part in run(*begun(*disputation), *ASKING, ("bad",), ("first",), ("caught",)):
                self.assertTrue(min(part) >= 0 or len(part) == 1, part)
