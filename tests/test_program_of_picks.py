"""Points 37, 38 and 136 to 142 together: the program of the outcomes that all picks that may be drawn bring."""

import unittest
from fractions import Fraction

from lotshown.alike import failing, first_parting
from lotshown.chances import chance
from lotshown.games import all_picks, alone, held, many, whole
from lotshown.hits import wins
from lotshown.reserves import holds, is_program, is_tight, least_reserve, loses, made_book, made_loss, reached, tight_course
from lotshown.rounds import play, reserves

GAME = (("choice", 4, 2), ("tail", 2, 1))
CLASSES = (((2, 1),), ((2, 0),), ((1, 1),))
PICKS = all_picks(GAME, whole(GAME))
SYSTEMS = (((1, 2, 3), ((0,),)), alone(GAME, ((2, 4), (1,))))
SOLD = sum(held(GAME, system) for system in SYSTEMS)


def outcome_of(drawn):
    rows = [wins(GAME, CLASSES, system, drawn) for system in SYSTEMS]
    return (SOLD, tuple(sum(column) for column in zip(*rows)))


def program_of(table):
    """Return the program of all outcomes, and the number of the picks that bring each of them."""
    outcomes = [outcome_of(drawn) for drawn in PICKS]
    program = (table, tuple(sorted(set(outcomes))))
    return program, tuple(outcomes.count(outcome) for outcome in program[1])


def table_of(first, price=2, most=20):
    return (price, (0, 1), most, (first, ("fixed", 4, (0, 1), 0, "keep"), ("fixed", 1, (0, 1), 0, "keep")))


class Program(unittest.TestCase):
    def test_the_outcomes(self):
        program, weights = program_of(table_of(("shared", 5, (1, 4), 0, "roll")))
        self.assertIs(is_program(program), True)
        self.assertEqual(sum(weights), many(GAME))
        # All winners of a class, over all picks, are as many as its chance tells.
        for place in range(3):
            total = sum(weight * outcome[1][place] for weight, outcome in zip(weights, program[1]))
            self.assertEqual(total, SOLD * many(GAME) * Fraction(*chance(GAME, CLASSES, place)))

    def test_books_and_losses(self):
        kinds = set()
        for first in (("shared", 5, (1, 4), 0, "roll"), ("shared", 30, (1, 4), 3, "roll"), ("fixed", 7, (0, 1), 0, "keep"), ("shared", 0, (1, 2), 0, "down")):
            for price in (1, 2, 3, 8):
                program, weights = program_of(table_of(first, price))
                self.assertIs(is_program(program), True)
                book, loss = made_book(program), made_loss(program)
                self.assertIs((book is None) != (loss is None), True)
                kinds.add(book is None)
                if book is None:
                    self.assertIs(loses(program, loss), True)
                    self.assertIsNone(least_reserve(program))
                else:
                    self.assertIs(holds(program, book), True)
                    self.assertEqual([state for state, _ in book], reached(program))
                    least = least_reserve(program)
                    self.assertIs(is_tight(program, least, tight_course(program)), True)
                    self.assertEqual(failing(program, weights, least, 12), (0, 1))
                    if least:
                        tight = tight_course(program)
                        self.assertGreater(failing(program, weights, least - 1, len(tight))[0], 0)
        self.assertEqual(kinds, {True, False})

    def test_the_chance_of_failing_over_all_picks(self):
        program, weights = program_of(table_of(("shared", 30, (1, 4), 0, "roll")))
        table = program[0]
        for reserve in (0, 3, 9, 20, 40):
            failed = [0, 0]
            for one in PICKS:
                first = reserves(table, [outcome_of(one)], reserve)
                failed[0] += first[-1] < 0
                for other in PICKS:
                    failed[1] += reserves(table, [outcome_of(one), outcome_of(other)], reserve)[-1] < 0
            for rounds, times in ((1, many(GAME)), (2, many(GAME) ** 2)):
                right = Fraction(failed[rounds - 1], times)
                self.assertEqual(failing(program, weights, reserve, rounds), (right.numerator, right.denominator))

    def test_what_is_earned_on_the_average(self):
        # Of fixed prizes alone, the changes over all picks are the stakes less what the chances tell.
        program, weights = program_of(table_of(("fixed", 7, (0, 1), 0, "keep")))
        changes = sum(weight * play(program[0], [outcome])[0][3] for weight, outcome in zip(weights, program[1]))
        right = 2 * SOLD - SOLD * sum(money * Fraction(*chance(GAME, CLASSES, place)) for place, money in enumerate((7, 4, 1)))
        self.assertEqual(Fraction(changes, many(GAME)), right)

    def test_tables_that_part(self):
        one, other = table_of(("shared", 5, (1, 4), 0, "roll")), table_of(("shared", 5, (1, 4), 9, "roll"))
        outcomes = program_of(one)[0][1]
        course = first_parting(one, other, outcomes)
        mine, yours = play(one, course), play(other, course)
        self.assertEqual([row[:2] for row in mine[:-1]], [row[:2] for row in yours[:-1]])
        self.assertNotEqual(mine[-1][:2], yours[-1][:2])
        self.assertIsNone(first_parting(one, one, outcomes))


if __name__ == "__main__":
    unittest.main()
