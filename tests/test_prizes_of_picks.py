"""Points 36 to 38 together with 113, 114, 117, 118, 133 and 134: what all picks that may be drawn come to."""

import unittest
from fractions import Fraction

from lotshown.bias import distance, ideal, is_fair, table
from lotshown.chances import chance
from lotshown.games import all_picks, alone, held, many, whole
from lotshown.hits import class_of, is_classes, wins
from lotshown.picks import unfairness
from lotshown.prizes import is_table, settle, start_state

GAME = (("choice", 5, 2), ("tail", 3, 2))
CLASSES = (((2, 2),), ((2, 0), (2, 1)), ((1, 1), (1, 2)), ((0, 0),))
PICKS = all_picks(GAME, whole(GAME))
SYSTEMS = (((1, 2, 3), ((0, 1), (2,))), alone(GAME, ((2, 5), (0, 0))), whole(GAME), ((1, 4), ((0,), (0, 1, 2))))


class Prizes(unittest.TestCase):
    def test_fixed_prizes_over_all_picks(self):
        self.assertIs(is_classes(GAME, CLASSES), True)
        money = (1000, 100, 7, 1)
        prizes = (5, (1, 4), 0, tuple(("fixed", amount, (0, 1), 0, "keep") for amount in money))
        self.assertIs(is_table(prizes), True)
        sold = sum(held(GAME, system) for system in SYSTEMS)
        paid = changes = due = 0
        for drawn in PICKS:
            rows = [wins(GAME, CLASSES, system, drawn) for system in SYSTEMS]
            winners = tuple(sum(column) for column in zip(*rows))
            told, owed, state, change = settle(prizes, start_state(prizes), (sold, winners))
            self.assertEqual(state, (0,) * 4)
            # The prize of each system is its wins, times what each winner of the class is paid.
            paid += sum(win * prize for row in rows for win, prize in zip(row, told))
            changes += change
            due += owed
        right = sum(amount * Fraction(*chance(GAME, CLASSES, place)) for place, amount in enumerate(money))
        self.assertEqual(paid, right * sold * many(GAME))
        self.assertEqual(paid + changes + due, 5 * sold * many(GAME))

    def test_shared_prizes_over_all_picks(self):
        # One ticket alone has the whole pot of a class whenever it is in it.
        ticket = ((2, 5), (0, 1))
        prizes = (360, (0, 1), 10 ** 12, tuple(("shared", 0, (1, 4), 0, "roll") for _ in CLASSES))
        paid, carried = [0] * 4, [0] * 4
        for drawn in PICKS:
            told, _, state, change = settle(prizes, start_state(prizes), (1, wins(GAME, CLASSES, alone(GAME, ticket), drawn)))
            paid = [one + prize for one, prize in zip(paid, told)]
            carried = [one + left for one, left in zip(carried, state)]
            self.assertEqual(change, 0)
        for place in range(4):
            part = Fraction(*chance(GAME, CLASSES, place))
            self.assertEqual(paid[place], 90 * many(GAME) * part)
            self.assertEqual(carried[place], 90 * many(GAME) * (1 - part))


class Draws(unittest.TestCase):
    def class_chances(self, told, pick):
        sums = [Fraction(0)] * 4
        for drawn, part in told.items():
            place = class_of(GAME, CLASSES, pick, drawn)
            if place is not None:
                sums[place] += Fraction(*part)
        return sums

    def test_classes_by_tables(self):
        rights = [Fraction(*chance(GAME, CLASSES, place)) for place in range(4)]
        for word in ("number", "game"):
            self.assertEqual(self.class_chances(ideal((word, GAME)), ((2, 4), (1, 0))), rights)
            fair = ((word, GAME), ("mod", 2, 1), 60)
            self.assertIs(is_fair(fair), True)
            for pick in PICKS[::11]:
                self.assertEqual(self.class_chances(table(fair), pick), rights)

    def test_classes_by_unfair_draws(self):
        rights = [Fraction(*chance(GAME, CLASSES, place)) for place in range(4)]
        for manner, base in ((("mod", 1, 1), 256), (("scale", 1, 1), 256), (("again", 1, 2), 256), (("mod", 7, 1), 2)):
            for word, bounds in (("number", (90,)), ("game", (5, 4, 3, 3))):
                told = table(((word, GAME), manner, base))
                far = Fraction(*distance(told, ideal((word, GAME))))
                self.assertGreater(far, 0)
                self.assertLessEqual(far, sum(Fraction(*unfairness(n, manner, base)) for n in bounds))
                if word == "number":
                    self.assertEqual(far, Fraction(*unfairness(90, manner, base)))
                for pick in PICKS[::17]:
                    found = self.class_chances(told, pick)
                    for one, right in zip(found, rights):
                        self.assertLessEqual(abs(one - right), far)


if __name__ == "__main__":
    unittest.main()
