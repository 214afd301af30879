"""Points 58 to 60: dealers who stand, and joint secrets."""

import random
import unittest
from collections import Counter
from itertools import product

from lotshown.checked import checks, is_element, open_checked, row_of
from lotshown.errors import Malformed, OutOfRange
from lotshown.joint import joint_row, joint_share, standing, stands
from tests.groups import GREAT, SMALL, any_dealing, dealt
from tests.kinds import ODD_VALUES

GROUP = (23, 11, 2, 3)
DEALING = ((5, 1, 2), (2, 4, 6))
ROW = row_of(GROUP, DEALING)
SHARES = dealt(GROUP, DEALING, range(1, 11))


class Standing(unittest.TestCase):
    def test_without_complaints(self):
        self.assertIs(stands(GROUP, 3, 5, (ROW, (), ())), True)
        self.assertIs(stands(GROUP, 3, 5, (ROW, (), (None, "what", 7, [], SHARES[0], (1, 1, 1)))), True)
        self.assertIs(stands(GROUP, 3, 3, (ROW, (), ())), True)
        self.assertIs(stands(GROUP, 3, 10, (ROW, (), ())), True)

    def test_answered_complaints(self):
        for complaints, shown, right in (
            ((2,), (SHARES[1],), True), ((2,), (), False), ((2,), (SHARES[2],), False), ((2,), ((2, 1, 1), SHARES[1]), True),
            ((2,), ((2, 1, 1),), False), ((2, 5), (SHARES[4], SHARES[1]), True), ((2, 5), (SHARES[4],), False),
            ((2, 5), (SHARES[1],), False), ((2, 5), tuple(SHARES), True), ((1, 5), (SHARES[4], SHARES[1]), False),
            ((2,), (list(SHARES[1]),), False), ((2,), (SHARES[1][:2],), False), ((2,), (SHARES[1], SHARES[1], None), True),
            ((1,), ((True,) + SHARES[0][1:],), False), ((2,), SHARES[1], False),
        ):
            self.assertIs(stands(GROUP, 3, 5, (ROW, complaints, shown)), right, (complaints, shown))

    def test_most_complaints(self):
        for threshold in range(1, 9):
            dealing = any_dealing(random.Random(threshold), 11, threshold)
            row, shown = row_of(GROUP, dealing), tuple(dealt(GROUP, dealing, range(1, 11)))
            for many in range(9):
                paper = (row, tuple(range(2, 2 + many)), shown)
                self.assertIs(stands(GROUP, threshold, 10, paper), many < threshold)

    def test_complaints_that_are_none(self):
        shown = tuple(SHARES)
        self.assertIs(stands(GROUP, 3, 5, (ROW, (1, 5), shown)), True)
        for wrong in ((5, 1), (1, 1), (2, 2), (0,), (6,), (-1,), (0, 1), (5, 6), [1, 5], [], None, 1, "12", (True,), (1.0,), ("1",),
                      (None,), ((1,),), (1, None), {1: 2}):
            self.assertIs(stands(GROUP, 3, 5, (ROW, wrong, shown)), False, wrong)

    def test_rows_that_are_none(self):
        for wrong in (ROW[:2], ROW + (1,), (), list(ROW), None, (1, 1), (1, 1, 0), (1, 1, 22), (1, 1, 23), (1, 1, 5), (1, 1, 24),
                      (True, 1, 1), (1, "1", 1), (1, 1, None), (1, 1.0, 1), "abc"):
            self.assertIs(stands(GROUP, 3, 5, (wrong, (), ())), False, wrong)
        self.assertIs(stands(GROUP, 3, 5, ((1, 1, 1), (), ())), True)
        self.assertIs(is_element(GROUP, 5), False)

    def test_papers_that_are_none(self):
        for wrong in ODD_VALUES + ([ROW, (), ()], (ROW, ()), (ROW, (), (), ()), (ROW, (), []), (ROW, (), None), (ROW, (), {})):
            self.assertIs(stands(GROUP, 3, 5, wrong), False)

    def test_bounds_of_threshold_and_parties(self):
        great = row_of(GREAT, ((1,), (2,)))
        for group, threshold, n in ((GREAT, 1, 1), (GREAT, 1, 12), (GROUP, 1, 10), (SMALL[0], 1, 2)):
            row = great if group == GREAT else (1,)
            self.assertIs(stands(group, threshold, n, (row, (), ())), True)
        eight = row_of(GREAT, ((1,) * 8, (2,) * 8))
        for n in (8, 12):
            self.assertIs(stands(GREAT, 8, n, (eight, (), ())), True)
        for group, threshold, n in ((GREAT, 0, 5), (GREAT, -1, 5), (GREAT, 9, 12), (GREAT, 9, 9), (GREAT, 1, 0), (GREAT, 8, 7),
                                    (GREAT, 3, 2), (GREAT, 1, 13), (GREAT, 8, 13), (GROUP, 1, 11), (GROUP, 8, 12), (SMALL[0], 1, 3),
                                    (SMALL[0], 3, 3), (SMALL[3], 2, 5)):
            with self.assertRaises(OutOfRange):
                stands(group, threshold, n, (great, (), ()))
            with self.assertRaises(OutOfRange):
                standing(group, threshold, n, [(great, (), ())])

    def test_several_papers(self):
        good = (ROW, (4,), (SHARES[3],))
        papers = [good, (ROW, (4,), ()), None, (ROW, (), ()), (ROW[:2], (), ()), good, True]
        kept = list(papers)
        self.assertEqual(standing(GROUP, 3, 5, papers), [0, 3, 5])
        self.assertEqual(papers, kept)
        self.assertEqual(standing(GROUP, 3, 5, [None, ()]), [])
        self.assertEqual(standing(GROUP, 3, 5, []), [])


class Joint(unittest.TestCase):
    def test_rows_and_shares_are_those_of_the_sum(self):
        chance = random.Random(41)
        for group in SMALL + (GREAT,):
            p, q = group[:2]
            for threshold, many in product((1, 2, 5, 8), (1, 2, 3, 6)):
                dealings = [any_dealing(chance, q, threshold) for _ in range(many)]
                joint = tuple(tuple(sum(row) % q for row in zip(*[dealing[side] for dealing in dealings])) for side in (0, 1))
                rows = [row_of(group, dealing) for dealing in dealings]
                kept = list(rows)
                row = joint_row(group, rows)
                self.assertEqual(row, row_of(group, joint))
                self.assertEqual(rows, kept)
                for index in {1, 2, q - 1}:
                    shares = [dealt(group, dealing, (index,))[0] for dealing in dealings]
                    share = joint_share(group, shares)
                    self.assertEqual(share, dealt(group, joint, (index,))[0])
                    self.assertIs(checks(group, row, share), True)

    def test_the_joint_secret_is_opened(self):
        dealings = [any_dealing(random.Random(at), 11, 3) for at in range(4)]
        row = joint_row(GROUP, [row_of(GROUP, dealing) for dealing in dealings])
        shares = [joint_share(GROUP, list(row)) for row in zip(*[dealt(GROUP, dealing, range(2, 6)) for dealing in dealings])]
        secret, blind = open_checked(GROUP, row, shares)
        self.assertEqual(secret, sum(dealing[0][0] for dealing in dealings) % 11)
        self.assertEqual(blind, sum(dealing[1][0] for dealing in dealings) % 11)

    def test_shares_that_do_not_belong_together(self):
        for wrong in ([], [SHARES[0], SHARES[1]], [SHARES[0], SHARES[0], SHARES[2]], [SHARES[3], SHARES[0], SHARES[0]]):
            with self.assertRaises(Malformed):
                joint_share(GROUP, wrong)
        self.assertEqual(joint_share(GROUP, [SHARES[3]]), SHARES[3])

    def test_each_joint_secret_comes_from_the_same_number(self):
        # One dealer takes all dealings in turn, the other one any; less than t shares of the first are known.
        group = SMALL[0]
        other = ((2, 1), (0, 2))
        for known in (0, 1):
            counts = Counter()
            for dealing in product(product(range(3), repeat=2), repeat=2):
                row = row_of(group, dealing)
                secret = (dealing[0][0] + other[0][0]) % 3
                counts[row, tuple(dealt(group, dealing, range(1, 1 + known))), secret] += 1
            self.assertEqual(len(set(counts.values())), 1)
            self.assertEqual(len(counts), 3 * len({key[:2] for key in counts}))


if __name__ == "__main__":
    unittest.main()
