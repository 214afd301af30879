"""Points 35, 36, 133 to 135 and 155 to 157 together: a circle whose tickets take part in several rounds."""

import random
import unittest
from fractions import Fraction

from lotshown.circles import is_course, spells
from lotshown.dues import accounts, exact_account, late
from lotshown.games import all_picks, held, whole
from lotshown.hits import class_of, wins
from lotshown.rounds import paid, play, reserves

GAME = (("choice", 5, 2), ("tail", 3, 1))
CLASSES = (((2, 1),), ((2, 0), (1, 1)), ((1, 0),))
TABLE = (3, (1, 10), 10 ** 6, (("shared", 40, (1, 4), 0, "roll"), ("shared", 5, (1, 5), 30, "down"), ("shared", 0, (1, 10), 0, "keep")))
PICKS = all_picks(GAME, whole(GAME))
NAMES = ("ann", "bob", "cid", "dan")


def any_system(chance):
    numbers = tuple(sorted(chance.sample(range(1, 6), chance.randint(2, 4))))
    return (numbers, (tuple(sorted(chance.sample(range(3), chance.randint(1, 3)))),))


def any_change(chance, course):
    """Put an entry to the course by which the parts change."""
    for _ in range(20):
        word = chance.choice(("join", "leave", "give"))
        giver, taker = chance.sample(NAMES, 2)
        entry = {"join": ("join", giver, chance.randint(1, 6)), "leave": ("leave", giver), "give": ("give", giver, taker, 1)}[word]
        if is_course("now", course + [entry]) and spells(course + [entry])[-1][1]:
            course.append(entry)
            return


def go_through(chance, rounds):
    """Return the course of the circle, the outcomes of the rounds, and what the tickets of each purchase won."""
    course = [("join", "ann", 2), ("join", "bob", 3)]
    outcomes, won = [], []
    for _ in range(rounds):
        any_change(chance, course)
        own = [any_system(chance) for _ in range(chance.randint(1, 3))]
        others = [any_system(chance) for _ in range(chance.randint(0, 3))]
        for system in own:
            course.append(("buy", TABLE[0] * held(GAME, system)))
        any_change(chance, course)
        drawn = chance.choice(PICKS)
        rows = [wins(GAME, CLASSES, system, drawn) for system in own + others]
        outcomes.append((sum(held(GAME, system) for system in own + others), tuple(sum(column) for column in zip(*rows))))
        prizes = play(TABLE, outcomes)[-1][0]
        for row in rows[:len(own)]:
            money = sum(many * prize for many, prize in zip(row, prizes))
            if money:
                course.append(("win", len(won), money))
            won.append(money)
        any_change(chance, course)
    return course, outcomes, won


class Circle(unittest.TestCase):
    def test_money_comes_out(self):
        chance = random.Random(160)
        for _ in range(25):
            course, outcomes, won = go_through(chance, 6)
            spent = sum(entry[1] for entry in course if entry[0] == "buy")
            for rule in ("held", "now"):
                self.assertIs(is_course(rule, course), True)
                rows = accounts(rule, course)
                self.assertEqual(sum(account for _, account in rows), sum(won) - spent)
                exact = sum(Fraction(*exact_account(rule, course, member)) for member, _ in rows)
                self.assertEqual(exact, sum(won) - spent)
                self.assertEqual(late(rule, course, "eve", 2)[-1], 0)
            results = play(TABLE, outcomes)
            stakes = TABLE[0] * sum(sold for sold, _ in outcomes)
            self.assertLessEqual(sum(won), paid(TABLE, outcomes))
            left = reserves(TABLE, outcomes, 10 ** 6)[-1] - 10 ** 6
            self.assertEqual(stakes, sum(row[1] for row in results) + paid(TABLE, outcomes) + sum(results[-1][2]) + left)

    def test_the_wins_are_those_of_each_pick(self):
        chance = random.Random(161)
        for _ in range(20):
            system, drawn = any_system(chance), chance.choice(PICKS)
            row = wins(GAME, CLASSES, system, drawn)
            inside = [pick for pick in PICKS if set(pick[0]) <= set(system[0]) and pick[1][0] in system[1][0]]
            self.assertEqual(len(inside), held(GAME, system))
            for place in range(3):
                self.assertEqual(row[place], sum(class_of(GAME, CLASSES, pick, drawn) == place for pick in inside))

    def test_a_circle_that_has_all_tickets(self):
        # Then the wins of all its purchases are all that is paid, whatever is drawn.
        table = (3, (1, 10), 10 ** 6, TABLE[3])
        course = [("join", "ann", 1), ("join", "bob", 2), ("join", "cid", 4)]
        outcomes, amounts = [], []
        for at, drawn in enumerate(PICKS[::7]):
            system = whole(GAME)
            course.append(("buy", 3 * held(GAME, system)))
            outcomes.append((held(GAME, system), wins(GAME, CLASSES, system, drawn)))
            result = play(table, outcomes)[-1]
            amounts.append(sum(many * prize for many, prize in zip(outcomes[-1][1], result[0])))
            course.append(("win", at, amounts[-1]))
        self.assertEqual(sum(amounts), paid(table, outcomes))
        for rule in ("held", "now"):
            self.assertEqual(sum(account for _, account in accounts(rule, course)), sum(amounts) - 90 * len(outcomes))
        self.assertEqual(accounts("held", course), accounts("now", course))


if __name__ == "__main__":
    unittest.main()
