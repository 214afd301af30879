"""Points 85 to 94, 187 to 191 and 197 together: what parties can do at an office is what the scheme of its charter tells."""

import random
import unittest
from fractions import Fraction
from itertools import product

from lotshown.audit import fault
from lotshown.charter import is_charter, pick_by, scheme_of, size_of
from lotshown.deceits import best_deceit, play
from lotshown.errors import Refused
from lotshown.machines import honest_plan
from lotshown.office import Office
from lotshown.schemes import machine_of
from lotshown.tails import greatest_chance, is_fair_for
from tests.offices import SHARES, TURNS, Party, changed
from tests.plainly import all_coalitions, all_values

TURNS_OF_3 = changed(changed(TURNS, 1, (("choice", 3, 1),)), 2, (((1,),), ((0,),)))
SHARES_OF_3 = changed(changed(changed(SHARES, 1, (("choice", 3, 1),)), 2, (((1,),), ((0,),))), 6, ("shares", 0, (11, 5, 3, 4), 2))


def draw(charter, record):
    """Let an office go through a record of a scheme, and return the result of its round."""
    office = Office(charter)
    values = {deed[1]: deed[2] for deed in record if deed[0] in ("reveals", "opened")}
    parties = [Party(charter, 0, at, random.Random(at), values.get(at, 0)) for at in range(len(charter[5]))]
    for party in parties:
        office.do(party.promise())
    office.do(("seal",))
    if charter[6][0] == "shares":
        for party in parties:
            office.do(party.paper())
    for deed in record:
        if deed[0] == "reveals":
            office.do(parties[deed[1]].reveal())
        elif deed[0] == "withholds":
            office.do(parties[deed[1]].withhold())
    for deed in record:
        if deed[0] == "opened":
            for index in range(1, charter[6][3] + 1):
                office.do(parties[deed[1]].help(index))
    draw_at_last(office)
    assert fault(charter, office.publications()) is None
    return office.publications()[0][0][7]


def draw_at_last(office):
    """Draw at once, or when patience is over."""
    try:
        office.do(("draw",))
    except Refused:
        office.do(("pass", office.time() + office.charter[7][2]))
        office.do(("draw",))


class Draws(unittest.TestCase):
    def test_the_schemes(self):
        for charter, scheme in ((TURNS_OF_3, ("turns", 3, (0, 1, 2), ())), (SHARES_OF_3, ("shares", 3, (0, 1, 2), (2,)))):
            self.assertIs(is_charter(charter), True)
            self.assertEqual(scheme_of(charter), scheme)
            self.assertEqual(size_of(charter), 3)
            self.assertEqual([pick_by(charter, result) for result in range(3)], [((1,),), ((2,),), ((3,),)])

    def test_plans_played_at_an_office(self):
        chance = random.Random(93)
        for charter in (TURNS_OF_3, SHARES_OF_3):
            scheme = scheme_of(charter)
            values = all_values(scheme)
            for coalition in all_coalitions(3):
                plans = [honest_plan(machine_of(scheme, coalition)), best_deceit(scheme, coalition, (1,))[0]]
                for plan in plans:
                    for row in chance.sample(values, 6):
                        record, result = play(scheme, coalition, plan, row)
                        self.assertEqual(draw(charter, record), result)

    def test_the_best_deceit_of_an_office(self):
        # Over all values, the best that two parties can do to draw the pick 2 is what part 5 tells.
        charter, coalition, wanted = TURNS_OF_3, (1, 2), (2,)
        scheme = scheme_of(charter)
        met = 0
        for first, second, third in product(range(3), repeat=3):
            reached = [
                draw(charter, [("reveals", 0, first), ("reveals", 1, second) if one else ("withholds", 1), ("reveals", 2, third) if two else ("withholds", 2)])
                for one, two in product((True, False), repeat=2)
            ]
            met += 2 in reached
        self.assertEqual(Fraction(met, 27), Fraction(*greatest_chance(scheme, coalition, wanted)))
        self.assertIs(is_fair_for(scheme, coalition), False)

    def test_one_liar_by_shares_changes_nothing(self):
        # Two of three are enough to open what the third one withholds, so that each course has the same result.
        scheme = scheme_of(SHARES_OF_3)
        for liar in range(3):
            self.assertIs(is_fair_for(scheme, (liar,)), True)
            for values in ((0, 1, 2), (2, 2, 2), (1, 0, 0)):
                honest = [("reveals", at, value) for at, value in enumerate(values)]
                silent = changed(tuple(honest), liar, ("withholds", liar))
                self.assertEqual(draw(SHARES_OF_3, honest), sum(values) % 3)
                self.assertEqual(draw(SHARES_OF_3, list(silent) + [("opened", liar, values[liar])]), sum(values) % 3)
                self.assertEqual(draw(SHARES_OF_3, list(silent)), (sum(values) - values[liar]) % 3)

    def test_each_result_is_equally_likely(self):
        for charter in (TURNS_OF_3, SHARES_OF_3):
            found = [draw(charter, [("reveals", at, value) for at, value in enumerate(values)]) for values in product(range(3), repeat=3)]
            self.assertEqual([found.count(result) for result in range(3)], [9, 9, 9])


class Copies(unittest.TestCase):
    def test_who_copies_is_bound_by_nothing_that_opens(self):
        for charter in (TURNS_OF_3, SHARES_OF_3):
            for earlier in (False, True):
                office = Office(charter)
                first = Party(charter, 0, 0, random.Random(1), 2)
                office.do(first.promise())
                if earlier:
                    office.do(("seal",))
                    if charter[6][0] == "shares":
                        office.do(first.paper())
                    office.do(first.reveal())
                    office.do(("draw",))
                # The copy stands under another name, or in the next round.
                name = "pat" if earlier else "quin"
                office.do(changed(first.promise(), 1, name))
                office.do(("seal",))
                if charter[6][0] == "shares":
                    with self.assertRaises(Refused):
                        office.do(changed(first.paper(), 1, name))
                else:
                    if not earlier:
                        office.do(first.withhold())
                    with self.assertRaises(Refused):
                        office.do(changed(first.reveal(), 1, name))
                    office.do(("withhold", name))
                draw_at_last(office)
                publications = office.publications()
                self.assertEqual(publications[-1][0][7], 0)
                self.assertIsNone(fault(charter, publications))
                # Nor is a bulletin right that tells of it.
                bulletin, book = publications[-1]
                number = charter[5].index(name)
                if charter[6][0] == "shares":
                    wrong = changed(bulletin, 4, changed(bulletin[4], number, first.paper()[2:]))
                else:
                    wrong = changed(bulletin, 5, bulletin[5][:-1] + (changed(first.reveal(), 1, name),))
                self.assertEqual(fault(charter, publications[:-1] + [(wrong, book)]), (len(publications) - 1, "deeds"))


if __name__ == "__main__":
    unittest.main()
