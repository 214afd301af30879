"""Points 136 to 141: programs, books of needs, losses, least reserves and tight courses."""

import random
import unittest

from lotshown.errors import TooMuch
from lotshown.prizes import settle, start_state
from lotshown.reserves import (
    holds, is_program, is_tight, least_reserve, loses, made_book, made_loss, reached, tight_course,
)
from lotshown.rounds import play, reserves
from tests.kinds import ODD_VALUES
from tests.programs import all_courses, any_program, counter, plain_needs, walk

TABLE = (10, (1, 10), 500, (("shared", 300, (1, 2), 0, "roll"), ("fixed", 20, (0, 1), 0, "keep")))
ONE = (TABLE, ((10, (0, 3)),))
TWO = (TABLE, ((10, (0, 3)), (10, (2, 0))))
# Each round pays 20 out of the reserve, or brings 10 into it.
LOSING = ((1, (0, 1), 0, (("fixed", 20, (0, 1), 0, "keep"),)), ((0, (1,)), (10, (0,))))


def changed(row, at, value):
    return row[:at] + (value,) + row[at + 1:]


class Programs(unittest.TestCase):
    def test_programs(self):
        self.assertIs(is_program(ONE), True)
        self.assertIs(is_program(TWO), True)
        self.assertIs(is_program((TABLE, tuple((sold, (0, 0)) for sold in range(12)))), True)
        self.assertIs(is_program((TABLE, ((10 ** 9, (10 ** 6, 0)),))), True)
        # With however many states.
        self.assertIs(is_program((counter(10 ** 12), ((1, (0,)), (10 ** 9, (0,))))), True)

    def test_one_condition_broken(self):
        outcome = (10, (0, 3))
        for outcomes in (
            (), (outcome, outcome), ((10, (2, 0)), outcome), tuple((sold, (0, 0)) for sold in range(13)), [outcome], outcome, None,
            ((10, (0,)),), ((10, (0, 3, 0)),), ((-1, (0, 0)),), ((10 ** 9 + 1, (0, 0)),), ((10, (0, 10 ** 6 + 1)),), ((True, (0, 0)),),
            ((10, (True, 0)),), ((10, [0, 3]),), ([10, (0, 3)],), ((10,),), ((10, (0, 3), 1),), (None,), (outcome, None), ((1.0, (0, 0)),),
        ):
            self.assertIs(is_program((TABLE, outcomes)), False, outcomes)
        for table in (changed(TABLE, 0, 0), changed(TABLE, 3, ()), list(TABLE), None, 5, changed(TABLE, 2, True)):
            self.assertIs(is_program((table, ONE[1])), False)
        for value in ODD_VALUES + (list(ONE), ONE + (1,), ONE[:1], (ONE[1], ONE[0])):
            self.assertIs(is_program(value), False)
            self.assertIs(is_program((value, ONE[1])), False)
            self.assertIs(is_program((TABLE, value)), False)
            self.assertIs(is_program((TABLE, (value,))), False)

    def test_states(self):
        self.assertEqual(reached(ONE), [(at, 0) for at in range(0, 501, 50)])
        self.assertEqual(reached(LOSING), [(0,)])
        chance = random.Random(136)
        for _ in range(40):
            program = any_program(chance)
            self.assertEqual(reached(program), sorted(walk(program)))

    def test_two_thousand_states(self):
        for most, right in ((1998, 1999), (1999, 2000)):
            program = (counter(most), ((1, (0,)),))
            self.assertEqual(reached(program), [(at,) for at in range(right)])
            self.assertEqual(least_reserve(program), 0)
            self.assertEqual(made_book(program), [((at,), 0) for at in range(right)])
            self.assertIsNone(made_loss(program))
            self.assertEqual(tight_course(program), [])
        program = (counter(2000), ((1, (0,)),))
        for ask in (reached, least_reserve, made_book, made_loss, tight_course):
            with self.assertRaises(TooMuch):
                ask(program)
        # What does not go through all states answers.
        self.assertIs(is_program(program), True)
        self.assertIs(holds(program, [((at,), 0) for at in range(2001)]), True)
        self.assertIs(loses(program, ([], [(1, (0,))])), False)
        self.assertIs(is_tight(program, 0, []), True)

    def test_long_courses_of_needs(self):
        # Ahead of the greatest state, each round costs 1.
        classes = (("shared", 0, (1, 1), 0, "roll"), ("fixed", 1, (0, 1), 0, "keep"))
        program = ((1, (0, 1), 1500, classes), ((1, (0, 1)),))
        self.assertEqual(least_reserve(program), 1500)
        self.assertEqual(made_book(program), [((at, 0), 1500 - at) for at in range(1501)])
        self.assertEqual(tight_course(program), [(1, (0, 1))] * 1500)
        table = (1, (0, 1), 1500, (("shared", 7, (1, 1), 0, "roll"),))
        program = (table, ((1, (0,)), (1, (1,))))
        self.assertEqual(len(reached(program)), 1501)
        # Each winner in the first round costs 6, again and again.
        self.assertIsNone(least_reserve(program))
        loss = made_loss(program)
        self.assertIs(loses(program, loss), True)


class Examples(unittest.TestCase):
    def test_of_the_document(self):
        self.assertEqual(least_reserve(ONE), 200)
        self.assertIsNone(least_reserve(TWO))

    def test_one_program(self):
        book = made_book(ONE)
        self.assertEqual(book, [((50 * at, 0), 200 - 20 * at) for at in range(11)])
        self.assertIs(holds(ONE, book), True)
        self.assertIsNone(made_loss(ONE))
        course = tight_course(ONE)
        self.assertIs(is_tight(ONE, 200, course), True)
        self.assertEqual(reserves(TABLE, course, 200)[-1], 0)
        self.assertEqual(reserves(TABLE, course, 199)[-1], -1)

    def test_a_program_with_a_loss(self):
        for program in (TWO, LOSING):
            self.assertIsNone(least_reserve(program))
            self.assertIsNone(made_book(program))
            self.assertIsNone(tight_course(program))
            self.assertIs(loses(program, made_loss(program)), True)

    def test_a_program_that_needs_nothing(self):
        program = (LOSING[0], ((10, (0,)),))
        self.assertEqual(least_reserve(program), 0)
        self.assertEqual(made_book(program), [((0,), 0)])
        self.assertEqual(tight_course(program), [])

    def test_a_loop_of_nothing_is_no_loss(self):
        program = ((1, (0, 1), 0, (("fixed", 20, (0, 1), 0, "keep"),)), ((20, (1,)),))
        self.assertEqual(least_reserve(program), 0)
        self.assertIsNone(made_loss(program))
        self.assertIs(loses(program, ([], [(20, (1,))])), False)
        self.assertEqual(least_reserve((program[0], ((0, (0,)), (20, (1,))))), 0)
        self.assertIsNone(least_reserve((program[0], ((19, (1,)),))))


class Books(unittest.TestCase):
    def test_one_thing_changed(self):
        book = made_book(ONE)
        self.assertIs(holds(ONE, book), True)
        for at in range(len(book)):
            state, need = book[at]
            less = book[:at] + [(state, need - 1)] + book[at + 1:]
            self.assertIs(holds(ONE, less), False)
            self.assertIs(holds(ONE, book[:at] + book[at + 1:]), False)
            self.assertIs(holds(ONE, book[:at + 1] + book[at:]), False)
        # More at the end than needed holds only if all ahead of it have more, too.
        self.assertIs(holds(ONE, [(state, need + 1) for state, need in book]), True)
        self.assertIs(holds(ONE, [(book[0][0], book[0][1] + 1)] + book[1:]), True)
        self.assertIs(holds(ONE, book[:-1] + [(book[-1][0], book[-1][1] + 1)]), False)
        self.assertIs(holds(ONE, list(reversed(book))), False)
        self.assertIs(holds(ONE, [book[1], book[0]] + book[2:]), False)
        self.assertIs(holds(ONE, tuple(book)), False)
        self.assertIs(holds(ONE, book[1:]), False)
        self.assertIs(holds(ONE, []), False)

    def test_states_that_are_not_reached(self):
        program = (LOSING[0], ((10, (0,)),))
        self.assertIs(holds((TABLE, ((0, (0, 0)),)), [((0, 0), 0)]), True)
        self.assertIs(holds((TABLE, ((0, (0, 0)),)), [((0, 0), 0), ((7, 0), 10 ** 70)]), True)
        # They must be states of the table, and lead to states of the book.
        self.assertIs(holds((TABLE, ((0, (0, 0)),)), [((0, 0), 0), ((501, 0), 0)]), False)
        self.assertIs(holds((TABLE, ((0, (0, 0)),)), [((0, 0), 0), ((0, 1), 0)]), False)
        self.assertIs(holds((TABLE, ((0, (1, 0)),)), [((0, 0), 300), ((7, 0), 593)]), False)
        self.assertIs(holds(program, [((0,), 0), ((1,), 0)]), False)

    def test_books_of_other_kinds(self):
        book = made_book(ONE)
        for value in ODD_VALUES:
            self.assertIs(holds(ONE, value), False)
            self.assertIs(holds(ONE, [value] + book), False)
            self.assertIs(holds(ONE, book + [value]), False)
            self.assertIs(holds(ONE, [(value, 200)] + book[1:]), False)
            if value is False or value is True or not isinstance(value, int):
                self.assertIs(holds(ONE, [(book[0][0], value)] + book[1:]), False)
        program = (LOSING[0], ((10, (0,)),))
        self.assertIs(holds(program, [((0,), 0)]), True)
        for row in (((0,), False), ((False,), 0), ([0], 0), [(0,), 0], ((0,), 0.0), ((0,), -1), ((0,), 0, 0), ((0,),), ((0, 0), 0), ((), 0)):
            self.assertIs(holds(program, [row]), False, row)
        self.assertIs(holds(program, [((0,), 1)]), True)


class Losses(unittest.TestCase):
    def test_ways_and_loops(self):
        losing, winning = LOSING[1]
        self.assertIs(loses(LOSING, ([], [losing])), True)
        self.assertIs(loses(LOSING, ([winning, winning], [losing])), True)
        self.assertIs(loses(LOSING, ([], [losing, winning])), True)
        self.assertIs(loses(LOSING, ([], [losing, winning, winning])), False)
        self.assertIs(loses(LOSING, ([], [losing, winning, winning, losing])), True)
        self.assertIs(loses(LOSING, ([], [winning])), False)
        self.assertIs(loses(LOSING, ([], [])), False)
        self.assertIs(loses(LOSING, ([losing], [])), False)
        # Changes that come to -1, 0 and 1.
        program = (LOSING[0], ((19, (1,)), (20, (1,)), (21, (1,))))
        self.assertEqual([loses(program, ([], [outcome])) for outcome in program[1]], [True, False, False])

    def test_loops_that_do_not_lead_back(self):
        rolling, won = TWO[1]
        self.assertIs(loses(TWO, ([], [won])), True)
        self.assertIs(loses(TWO, ([rolling], [won])), False)
        self.assertIs(loses(TWO, ([rolling], [won, rolling])), True)
        self.assertIs(loses(TWO, ([], [rolling])), False)
        self.assertIs(loses(TWO, ([rolling, rolling], [rolling])), False)
        # At the greatest state that is carried it leads back, but then more is kept.
        self.assertEqual(settle(TABLE, (500, 0), rolling)[2:], ((500, 0), 30))
        self.assertIs(loses(TWO, ([rolling] * 10, [rolling])), False)
        self.assertIs(loses(TWO, ([rolling] * 10, [won, won])), False)
        self.assertIs(loses(TWO, ([rolling] * 9, [won] + [rolling] * 9)), True)

    def test_losses_of_other_kinds(self):
        losing = LOSING[1][0]
        for value in ODD_VALUES:
            self.assertIs(loses(LOSING, value), False)
            self.assertIs(loses(LOSING, (value, [losing])), isinstance(value, list) and value == [])
            self.assertIs(loses(LOSING, ([], value)), False)
            self.assertIs(loses(LOSING, ([value], [losing])), False)
            self.assertIs(loses(LOSING, ([], [losing, value])), False)
        for value in ([[], [losing]], ([], [losing], []), ([],), ((), [losing]), ([], (losing,)), ([], losing), ([], [list(losing)]),
                      ([], [(0, (2,))]), ([], [(0, [1])]), ([], [(False, (1,))]), ([], [(0, (True,))]), ([], [(0.0, (1,))])):
            self.assertIs(loses(LOSING, value), False, value)


class Tight(unittest.TestCase):
    def test_courses(self):
        row = ONE[1][0]
        sums = [-20, -40, -60, -80, -100, -120, -140, -160, -180, -200, -170]
        self.assertEqual([sum(play_changes(ONE, [row] * many)) for many in range(1, 12)], sums)
        for many in range(0, 12):
            for reserve in (0, 20, 170, 199, 200, 201):
                right = reserve == -([0] + sums)[many]
                self.assertIs(is_tight(ONE, reserve, [row] * many), right)

    def test_of_other_kinds(self):
        row = LOSING[1][0]
        self.assertIs(is_tight(LOSING, 20, [row]), True)
        self.assertIs(is_tight(LOSING, 0, []), True)
        self.assertIs(is_tight(LOSING, 0, [row, LOSING[1][1], LOSING[1][1]]), True)
        for value in ODD_VALUES:
            self.assertIs(is_tight(LOSING, 0, value), isinstance(value, list) and value == [])
            self.assertIs(is_tight(LOSING, 20, [row, value]), False)
        for value in ((row,), row, [list(row)], [(0, [1])], [(0, (True,))], [(False, (1,))], [(0, (2,))], [row, (0, (0,))]):
            self.assertIs(is_tight(LOSING, 20, value), False, value)


def play_changes(program, course):
    return [row[3] for row in play(program[0], course)]


class AllCourses(unittest.TestCase):
    def test_against_plain_needs(self):
        chance = random.Random(139)
        kinds = {True: 0, False: 0}
        for _ in range(250):
            program = any_program(chance)
            states = walk(program)
            self.assertIs(is_program(program), True)
            # With no loss, the needs of as many rounds as there are states are those of all rounds.
            needs, more = plain_needs(program, len(states)), plain_needs(program, len(states) + 1)
            lost = needs != more
            kinds[lost] += 1
            book, loss = made_book(program), made_loss(program)
            if lost:
                self.assertIsNone(book)
                self.assertIsNone(least_reserve(program))
                self.assertIsNone(tight_course(program))
                self.assertIs(loses(program, loss), True)
                # Going around often enough, no reserve is enough.
                way, loop = loss
                around = -sum(play_changes(program, way + loop)) + sum(play_changes(program, way))
                course = way + loop * (1000 // around + 1000)
                self.assertLess(reserves(program[0], course, 900)[-1], 0)
                for wrong in ([(state, 10 ** 6) for state in sorted(states)], [(state, needs[state]) for state in sorted(states)]):
                    self.assertIs(holds(program, wrong), False)
            else:
                self.assertEqual(book, [(state, needs[state]) for state in sorted(states)])
                self.assertIs(holds(program, book), True)
                self.assertIsNone(loss)
                self.assertEqual(least_reserve(program), needs[start_state(program[0])])
                course = tight_course(program)
                self.assertIs(is_tight(program, least_reserve(program), course), True)
                self.assertEqual(course == [], least_reserve(program) == 0)
        self.assertGreater(min(kinds.values()), 20)

    def test_against_all_courses(self):
        chance = random.Random(140)
        for _ in range(60):
            program = any_program(chance, 3)
            rounds = {1: 30, 2: 8, 3: 5}[len(program[1])]
            needs = plain_needs(program, rounds)[start_state(program[0])]
            courses = all_courses(program, rounds)
            fails = [reserve for reserve in (needs, needs - 1) if reserve >= 0 and any(
                reserves(program[0], course, reserve)[-1] < 0 for course in courses)]
            self.assertEqual(fails, [needs - 1] if needs > 0 else [])
            least = least_reserve(program)
            if least is not None:
                self.assertLessEqual(needs, least)
                self.assertFalse(any(reserves(program[0], course, least)[-1] < 0 for course in courses))
                tight = tight_course(program)
                if tight:
                    self.assertLess(reserves(program[0], tight, least - 1)[-1], 0)

    def test_fewer_outcomes_need_no_more(self):
        chance = random.Random(141)
        for _ in range(80):
            table, outcomes = any_program(chance)
            least = least_reserve((table, outcomes))
            some = tuple(outcome for outcome in outcomes if chance.random() < 0.6) or outcomes[:1]
            fewer = least_reserve((table, some))
            if least is not None:
                self.assertLessEqual(fewer, least)
            if least == 0:
                for outcome in outcomes:
                    self.assertGreaterEqual(settle(table, start_state(table), outcome)[3], 0)

    def test_no_change_below_0_from_the_start_but_a_loss_later(self):
        table = (1, (0, 1), 3, (("shared", 0, (1, 1), 0, "roll"), ("fixed", 6, (0, 1), 0, "keep")))
        program = (table, ((19, (10, 1)),))
        # What is kept of the pot pays the fixed prize in the first round only.
        self.assertEqual([row[3] for row in play(table, list(program[1]) * 5)], [0, -6, -6, -6, 0])
        self.assertIsNone(least_reserve(program))
        self.assertIs(loses(program, made_loss(program)), True)
        self.assertIs(loses(program, ([], list(program[1]) * 4)), True)

    def test_nothing_is_shared(self):
        book = made_book(ONE)
        book.clear()
        self.assertEqual(len(made_book(ONE)), 11)
        course = tight_course(ONE)
        course.append(None)
        self.assertIs(is_tight(ONE, 200, tight_course(ONE)), True)
        states = reached(ONE)
        states.pop()
        self.assertEqual(len(reached(ONE)), 11)
        loss = made_loss(TWO)
        loss[0].append(None)
        loss[1].clear()
        self.assertIs(loses(TWO, made_loss(TWO)), True)


if __name__ == "__main__":
    unittest.main()
