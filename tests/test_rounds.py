"""Points 134 and 135: courses of rounds, and what they leave of a reserve."""

import random
import unittest

from lotshown.prizes import settle, start_state
from lotshown.rounds import paid, play, reserves
from tests.test_prizes import any_table, plain_settle

TABLE = (10, (1, 10), 500, (("shared", 300, (1, 2), 0, "roll"), ("fixed", 20, (0, 1), 0, "keep")))
# With these the change is -50 and 90.
LOSING = (0, (0, 7))
WINNING = (10, (0, 0))
FIXED = (10, (0, 1), 0, (("fixed", 20, (0, 1), 0, "keep"),))


def any_course(chance, table, many):
    return [(chance.choice((0, chance.randint(0, 200))), tuple(chance.choice((0, 0, 1, 2, 17)) for _ in table[3])) for _ in range(many)]


class Play(unittest.TestCase):
    def test_no_round_and_one(self):
        self.assertEqual(play(TABLE, []), [])
        self.assertEqual(play(TABLE, [(40, (0, 3))]), [((0, 20), 40, (200, 0), 100)])

    def test_what_is_carried_comes_to_the_next_round(self):
        course = [(40, (0, 3)), (10, (2, 0)), (60, (0, 0)), (60, (0, 0)), (0, (1, 1))]
        self.assertEqual(play(TABLE, course), [
            ((0, 20), 40, (200, 0), 100), ((150, 0), 10, (0, 0), -10 + 0), ((0, 0), 60, (300, 0), 240),
            ((0, 0), 60, (500, 0), 340), ((500, 20), 0, (0, 0), -20),
        ])

    def test_against_a_plain_way(self):
        chance = random.Random(134)
        for turn in range(60):
            table = any_table(chance, turn % 6 == 0)
            course = any_course(chance, table, chance.randint(0, 30))
            state, rows = (0,) * len(table[3]), []
            for outcome in course:
                rows.append(plain_settle(table, state, outcome))
                state = rows[-1][2]
            self.assertEqual(play(table, course), rows)

    def test_a_thousand_rounds(self):
        chance = random.Random(1000)
        course = any_course(chance, TABLE, 1000)
        rows = play(TABLE, course)
        self.assertEqual(len(rows), 1000)
        state = start_state(TABLE)
        for outcome, row in zip(course, rows):
            self.assertEqual(row, settle(TABLE, state, outcome))
            state = row[2]
        self.assertEqual(reserves(TABLE, course, 10 ** 9)[-1], 10 ** 9 + sum(row[3] for row in rows))

    def test_nothing_handed_in_is_changed(self):
        course = [(40, (0, 3)), (10, (2, 0))]
        before = list(course)
        rows = play(TABLE, course)
        rows.clear()
        reserves(TABLE, course, 5).append(7)
        paid(TABLE, course)
        self.assertEqual(course, before)
        self.assertEqual(len(play(TABLE, course)), 2)


class Sums(unittest.TestCase):
    def test_the_sums_over_a_course(self):
        chance = random.Random(135)
        for turn in range(80):
            table = any_table(chance, turn % 4 == 0)
            course = any_course(chance, table, chance.randint(0, 40))
            rows = play(table, course)
            stakes = table[0] * sum(sold for sold, _ in course)
            due = sum(row[1] for row in rows)
            won = sum(prize * many for row, outcome in zip(rows, course) for prize, many in zip(row[0], outcome[1]))
            carried = sum(rows[-1][2]) if rows else 0
            self.assertEqual(paid(table, course), won)
            self.assertEqual(stakes, due + won + carried + sum(row[3] for row in rows))
            # And so in each round, with what was carried into it.
            before = start_state(table)
            for row, (sold, winners) in zip(rows, course):
                told = sum(prize * many for prize, many in zip(row[0], winners))
                self.assertEqual(table[0] * sold + sum(before), row[1] + told + sum(row[2]) + row[3])
                before = row[2]

    def test_what_is_paid(self):
        self.assertEqual(paid(TABLE, []), 0)
        self.assertEqual(paid(TABLE, [(40, (0, 3))]), 60)
        self.assertEqual(paid(TABLE, [(40, (0, 3)), (10, (2, 0))]), 360)
        self.assertEqual(paid(TABLE, [(0, (0, 0))] * 5), 0)
        # Of a pot of 301, each of two winners is paid 150.
        self.assertEqual(paid((1, (0, 1), 0, (("shared", 301, (0, 1), 0, "roll"),)), [(0, (2,))]), 300)


class Reserves(unittest.TestCase):
    def test_a_reserve_that_is_just_used_up(self):
        self.assertEqual(reserves(FIXED, [(0, (2,)), (0, (1,))], 60), [20, 0])
        self.assertEqual(reserves(FIXED, [(0, (2,)), (0, (1,))], 59), [19, -1])
        self.assertEqual(reserves(FIXED, [(0, (0,))], 0), [0])
        self.assertEqual(reserves(FIXED, [(0, (1,))], 20), [0])
        self.assertEqual(reserves(FIXED, [(0, (1,))], 19), [-1])

    def test_the_list_ends_with_the_round_that_fails(self):
        course = [(1, (0,)), (0, (2,)), (100, (0,)), (0, (1,))]
        self.assertEqual(reserves(FIXED, course, 29), [39, -1])
        self.assertEqual(reserves(FIXED, course, 30), [40, 0, 1000, 980])
        # A later round may not make up for it.
        self.assertEqual(reserves(FIXED, [(0, (1,)), (10, (0,))], 0), [-20])

    def test_no_rounds(self):
        self.assertEqual(reserves(FIXED, [], 0), [])

    def test_against_the_results(self):
        chance = random.Random(136)
        for _ in range(80):
            table = any_table(chance)
            course = any_course(chance, table, 25)
            reserve = chance.choice((0, 100, 10 ** 5))
            rows = reserves(table, course, reserve)
            changes = [row[3] for row in play(table, course)]
            sums = [reserve + sum(changes[:at + 1]) for at in range(len(changes))]
            failed = [at for at, left in enumerate(sums) if left < 0]
            self.assertEqual(rows, sums[:failed[0] + 1] if failed else sums)


if __name__ == "__main__":
    unittest.main()
