"""Points 188 to 191: how the parties draw."""

import random
import unittest
from itertools import combinations_with_replacement, product

from lotshown.charter import is_charter, size_of
from lotshown.checked import row_of, share_of
from lotshown.drawing import binding, is_ready, may_do, may_draw, may_show, outs, result, turn
from lotshown.errors import Refused
from lotshown.joint import stands
from tests.groups import bent
from tests.offices import PARTIES, SHARES, SMALL_GROUP, TURNS, TURNS_OF_OCTETS, Party, changed, drawn_at, parties_of, sealed

NONE = (None, None, None)
SALT = (9,) * 16


class Turns(unittest.TestCase):
    def setUp(self):
        self.chance = random.Random(188)
        self.parties = parties_of(TURNS, 3, self.chance, (3, 9, 0))
        self.promises = tuple(party.seal for party in self.parties)

    def do(self, deeds, deed, promises=None, charter=TURNS, at=3):
        before = list(deeds)
        found = may_do(charter, at, promises or self.promises, NONE, deeds, deed)
        self.assertEqual(deeds, before)
        return found

    def test_binding_octets(self):
        self.assertEqual(binding(0, 0), (0, 0, 0, 0, 0))
        self.assertEqual(binding(258, 5), (0, 0, 1, 2, 5))
        self.assertEqual(binding(256 ** 4 - 1, 255), (255,) * 5)

    def test_who_is_out_and_turns_in_order(self):
        for marks in product((False, True), repeat=3):
            promises = tuple(seal if mark else None for seal, mark in zip(self.promises, marks))
            self.assertEqual(outs(TURNS, promises, NONE), tuple(at for at in range(3) if not marks[at]))
            order = [at for at in range(3) if marks[at]]
            deeds = []
            for at in order + [None]:
                self.assertEqual(turn(TURNS, promises, NONE, deeds), at)
                for other in range(3):
                    self.assertIs(self.do(deeds, self.parties[other].reveal(), promises), other == at)
                    self.assertIs(self.do(deeds, self.parties[other].withhold(), promises), other == at)
                if at is not None:
                    deeds.append(self.parties[at].reveal() if at != 1 else self.parties[at].withhold())

    def test_reveals(self):
        party = self.parties[0]
        self.assertIs(self.do([], party.reveal()), True)
        for deed in (changed(party.reveal(), 2, 4), changed(party.reveal(), 2, 13), changed(party.reveal(), 3, SALT), changed(party.reveal(), 2, 10),
                     changed(party.reveal(), 1, "nobody"), changed(party.reveal(), 1, "quin"), ("withhold", "nobody")):
            self.assertIs(self.do([], deed), False)
        # Another salt that opens the seal would do, and one with more than 32 octets is no deed.
        long = (1,) * 33
        promises = changed(self.promises, 0, sealed(TURNS, 3, 0, long, [3]))
        self.assertIs(self.do([], ("reveal", "pat", 3, long), promises), False)
        promises = changed(self.promises, 0, sealed(TURNS, 3, 0, long[:32], [3]))
        self.assertIs(self.do([], ("reveal", "pat", 3, long[:32]), promises), True)

    def test_values_of_m_and_beyond(self):
        for charter, size in ((TURNS, 10), (TURNS_OF_OCTETS, 65536)):
            self.assertEqual(size_of(charter), size)
            for value, right in ((0, True), (size - 1, True), (size, False), (size + 1, False), (2 ** 62, False)):
                promises = (sealed(charter, 0, 0, SALT, [value]), None, None)
                self.assertIs(self.do([], ("reveal", "pat", value, SALT), promises, charter, 0), right)

    def test_what_another_one_or_another_round_has_promised(self):
        for number, at in ((0, 2), (0, 4), (1, 3), (2, 3)):
            promises = changed(self.promises, 0, sealed(TURNS, at, number, SALT, [3]))
            self.assertIs(self.do([], ("reveal", "pat", 3, SALT), promises), False)
            self.assertIs(self.do([], ("reveal", "pat", 3, SALT), changed(promises, 0, sealed(TURNS, 3, 0, SALT, [3]))), True)
            if at != 3:
                self.assertIs(self.do([], ("reveal", "pat", 3, SALT), promises, TURNS, at), True)
        # Who copies a seal cannot open it with what is revealed.
        promises = (self.promises[0], self.promises[0], self.promises[2])
        deeds = [self.parties[0].reveal()]
        self.assertIs(self.do(deeds, changed(self.parties[0].reveal(), 1, "quin"), promises), False)
        self.assertIs(self.do(deeds, ("withhold", "quin"), promises), True)

    def test_other_deeds(self):
        for deed in (("seal",), ("draw",), ("pass", 5), self.parties[0].promise(), ("event", 0, 7, "claim", "pat", None), None, (), "withhold", ["withhold", "pat"], ("withhold", None)):
            self.assertIs(self.do([], deed), False)

    def test_no_helps_and_no_papers(self):
        deeds = [party.withhold() for party in self.parties]
        self.assertIsNone(turn(TURNS, self.promises, NONE, deeds))
        self.assertIs(self.do(deeds, ("help", "pat", 1, 2, 3)), False)
        self.assertIs(may_show(TURNS, 3, self.promises, "pat", ((3,), (), ()), self.parties[0].salt), False)

    def test_ready_and_may_draw(self):
        for time in (5, 6, 100):
            self.assertIs(is_ready(TURNS, self.promises, NONE, 5, time), True)
        deeds = []
        for party in self.parties:
            self.assertIs(may_draw(TURNS, self.promises, NONE, deeds, (0, 0, 0, 100)), False)
            with self.assertRaises(Refused):
                result(TURNS, self.promises, NONE, deeds)
            deeds.append(party.withhold())
        self.assertIs(may_draw(TURNS, self.promises, NONE, deeds, (5, 5, 5, 5)), True)
        self.assertIs(may_draw(TURNS, NONE, NONE, [], (5, 5, 5, 5)), True)
        # Span and wait, here 130, still come to at most 10^9.
        self.assertIs(may_draw(TURNS, NONE, NONE, [], (5, 5, 5, 10 ** 9 - 130)), True)
        self.assertIs(may_draw(TURNS, NONE, NONE, [], (5, 5, 5, 10 ** 9 - 129)), False)

    def test_results(self):
        rows = [(party.reveal(), party.withhold()) for party in self.parties]
        for places in product((0, 1), repeat=3):
            deeds = [row[place] for row, place in zip(rows, places)]
            right = sum(value for value, place in zip((3, 9, 0), places) if place == 0) % 10
            self.assertEqual(result(TURNS, self.promises, NONE, deeds), right)
        self.assertEqual(result(TURNS, NONE, NONE, []), 0)
        self.assertEqual(result(TURNS, changed(NONE, 1, self.promises[1]), NONE, [rows[1][0]]), 9)


class Shares(unittest.TestCase):
    def setUp(self):
        self.chance = random.Random(190)
        self.parties = parties_of(SHARES, 3, self.chance, (3, 10, 7))
        self.promises = tuple(party.seal for party in self.parties)
        self.papers = tuple(party.paper()[2:] for party in self.parties)
        self.withheld = [party.withhold() for party in self.parties]

    def do(self, deeds, deed, promises=None, papers=None):
        return may_do(SHARES, 3, promises or self.promises, papers or self.papers, deeds, deed)

    def test_papers(self):
        for at, party in enumerate(self.parties):
            _, name, paper, salt = party.paper()
            self.assertIs(may_show(SHARES, 3, self.promises, name, paper, salt), True)
            # Complaints and shares are not bound by the seal, the row and all else is.
            self.assertIs(may_show(SHARES, 3, self.promises, name, (paper[0], (1, 2), ((1, 2, 3),)), salt), True)
            self.assertIs(may_show(SHARES, 3, self.promises, name, (paper[0][:1], (), ()), salt), False)
            self.assertIs(may_show(SHARES, 3, self.promises, name, (paper[0] + (1,), (), ()), salt), False)
            self.assertIs(may_show(SHARES, 3, self.promises, name, (tuple(reversed(paper[0])), (), ()), salt), paper[0][0] == paper[0][1])
            self.assertIs(may_show(SHARES, 3, self.promises, name, ((), (), ()), salt), False)
            self.assertIs(may_show(SHARES, 3, self.promises, name, paper, SALT), False)
            self.assertIs(may_show(SHARES, 2, self.promises, name, paper, salt), False)
            self.assertIs(may_show(SHARES, 3, changed(self.promises, at, None), name, paper, salt), False)
            for other in PARTIES + ("nobody",):
                self.assertIs(may_show(SHARES, 3, self.promises, other, paper, salt), other == name)

    def test_a_row_that_was_seen_is_of_no_use(self):
        # The seal hides the row; and who copies the seal of another one cannot show its row.
        party = self.parties[0]
        promises = (party.seal, party.seal, party.seal)
        for at, name in enumerate(PARTIES):
            self.assertIs(may_show(SHARES, 3, promises, name, party.paper()[2], party.salt), at == 0)

    def test_a_row_of_any_numbers(self):
        for row in ((), (2 ** 62,) * 6, (0, 5)):
            promises = (sealed(SHARES, 3, 0, SALT, row), None, None)
            self.assertIs(may_show(SHARES, 3, promises, "pat", (row, (), ()), SALT), True)
            self.assertIn(0, outs(SHARES, promises, (((row, (), ()), SALT), None, None)))

    def test_who_is_out(self):
        self.assertEqual(outs(SHARES, self.promises, self.papers), ())
        self.assertEqual(outs(SHARES, changed(self.promises, 1, None), changed(self.papers, 1, None)), (1,))
        self.assertEqual(outs(SHARES, self.promises, changed(self.papers, 2, None)), (2,))
        self.assertEqual(outs(SHARES, changed(self.promises, 1, None), self.papers), (1,))
        self.assertEqual(outs(SHARES, NONE, NONE), (0, 1, 2))
        party = self.parties[1]
        share = share_of(SMALL_GROUP, party.dealing, 3)
        wrong = (3, (share[1] + 1) % 11, share[2])
        for complaints, shown, out in (
            ((), (), False), ((), (wrong,), False), ((3,), (share,), False), ((3,), (wrong, share), False), ((3,), (), True), ((3,), (wrong,), True),
            ((2,), (share,), True), ((1, 3), (share, share_of(SMALL_GROUP, party.dealing, 1)), True), ((4,), (share_of(SMALL_GROUP, party.dealing, 4),), True),
            ((0,), (share,), True), ((3, 3), (share,), True),
        ):
            papers = changed(self.papers, 1, party.paper(complaints, shown)[2:])
            self.assertIs(stands(SMALL_GROUP, 2, 3, papers[1][0]), not out)
            self.assertEqual(outs(SHARES, self.promises, papers), (1,) if out else ())
        for row in (party.row[:1], party.row + party.row, (party.row[0], 5), (party.row[0], 0), ()):
            papers = changed(self.papers, 1, ((row, (), ()), SALT))
            self.assertEqual(outs(SHARES, self.promises, papers), (1,))

    def test_turns_in_order(self):
        papers = changed(self.papers, 1, None)
        self.assertEqual([turn(SHARES, self.promises, self.papers, self.withheld[:many]) for many in range(4)], [0, 1, 2, None])
        rows = [self.withheld[0], self.withheld[2]]
        self.assertEqual([turn(SHARES, self.promises, papers, rows[:many]) for many in range(3)], [0, 2, None])
        self.assertIs(self.do([], self.parties[0].reveal()), True)
        self.assertIs(self.do([], self.parties[2].reveal()), False)
        self.assertIs(self.do(rows[:1], self.parties[1].withhold(), None, papers), False)
        self.assertIs(self.do(rows[:1], self.parties[2].reveal(), None, papers), True)
        # Helps are no turns.
        self.assertIsNone(turn(SHARES, self.promises, self.papers, self.withheld + [self.parties[0].help(1)]))

    def test_reveals(self):
        party = self.parties[0]
        _, name, value, opener = party.reveal()
        rows = [(v, w) for v in range(11) for w in range(11) if row_of(SMALL_GROUP, ((v,), (w,)))[0] == party.row[0]]
        self.assertEqual(len(rows), 11)
        for v in range(13):
            for w in list(range(13)) + [opener + 11]:
                right = (v, w) in rows and v < 10
                self.assertIs(self.do([], (("reveal", name, v, w))), right)
        self.assertIs((value, opener) in rows, True)
        # A value of m or more does not open, though it is a number of the group.
        self.assertEqual(self.parties[1].value, 10)
        self.assertIs(self.do(self.withheld[:1], self.parties[1].reveal()), False)
        self.assertIs(self.do(self.withheld[:1], self.parties[1].withhold()), True)

    def test_helps(self):
        party = self.parties[0]
        deeds = list(self.withheld)
        self.assertIs(self.do(deeds[:2], party.help(1)), False)
        self.assertIs(self.do([], party.help(1)), False)
        for index in (1, 2, 3):
            self.assertIs(self.do(deeds, party.help(index)), True)
            share = party.help(index)
            for wrong in (changed(share, 3, (share[3] + 1) % 11), changed(share, 4, (share[4] + 1) % 11), changed(share, 1, "nobody"),
                          changed(share, 3, share[3] + 11), changed(share, 2, index + 11)):
                self.assertIs(self.do(deeds, wrong), False)
        for index in (0, 4, 5, 11, 2 ** 62):
            self.assertIs(self.do(deeds, ("help", "pat") + share_of(SMALL_GROUP, party.dealing, index if 1 <= index < 11 else 1)[:0] + (index, 0, 0)), False)
        for index in (4, 5, 10):
            self.assertIs(self.do(deeds, party.help(index)), False)
        # An index that was handed in, for this party; for another one it is free.
        deeds.append(party.help(2))
        self.assertIs(self.do(deeds, party.help(2)), False)
        self.assertIs(self.do(deeds, self.parties[2].help(2)), True)
        self.assertIs(self.do(deeds, party.help(3)), True)
        # Once it is opened, no more help is given.
        deeds.append(party.help(3))
        self.assertIs(self.do(deeds, party.help(1)), False)
        # Who revealed, and who is out, gets no help.
        deeds = [party.reveal()] + self.withheld[1:]
        self.assertIs(self.do(deeds, party.help(1)), False)
        papers = changed(self.papers, 0, None)
        self.assertIs(self.do(self.withheld[1:], party.help(1), None, papers), False)

    def test_helps_bent_to_the_same_row(self):
        # Who knows x can show other shares, which check with the row, and so open another value.
        party = self.parties[0]
        other = bent(SMALL_GROUP, party.dealing, (1, 0))
        self.assertEqual(row_of(SMALL_GROUP, other), party.row)
        self.assertIs(self.do(self.withheld, ("help", "pat") + share_of(SMALL_GROUP, other, 1)), True)

    def test_readiness(self):
        end = 40
        self.assertIs(is_ready(SHARES, self.promises, self.papers, end, end), True)
        missing = changed(self.papers, 1, None)
        for time, right in ((40, False), (49, False), (50, True), (51, True)):
            self.assertIs(is_ready(SHARES, self.promises, missing, end, time), right)
            self.assertIs(is_ready(SHARES, self.promises, NONE, end, time), right)
            self.assertIs(is_ready(SHARES, changed(self.promises, 1, None), missing, end, time), True)
            self.assertIs(is_ready(SHARES, NONE, NONE, end, time), True)
        # A paper that does not stand was shown, too.
        self.assertIs(is_ready(SHARES, self.promises, changed(self.papers, 1, (((), (), ()), SALT)), end, end), True)

    def test_may_draw(self):
        revealed = [self.parties[0].reveal(), self.withheld[1], self.parties[2].reveal()]
        times = (40, 41, 45, 45)
        self.assertIs(may_draw(SHARES, self.promises, self.papers, revealed[:2], (40, 41, 45, 10 ** 6)), False)
        # It waits for the withheld value, and at the latest until patience is over.
        for time, right in ((45, False), (54, False), (55, True), (56, True)):
            self.assertIs(may_draw(SHARES, self.promises, self.papers, revealed, changed(times, 3, time)), right)
        opened = revealed + [self.parties[1].help(1)]
        self.assertIs(may_draw(SHARES, self.promises, self.papers, opened, times), False)
        opened = opened + [self.parties[1].help(3)]
        self.assertIs(may_draw(SHARES, self.promises, self.papers, opened, times), True)
        more = [self.withheld[0]] + revealed[1:] + opened[3:]
        self.assertIs(may_draw(SHARES, self.promises, self.papers, more, times), False)
        self.assertIs(may_draw(SHARES, self.promises, self.papers, [self.parties[0].reveal(), self.withheld[1], self.withheld[2]], times), False)
        # Nobody withholds, nothing is to be waited for.
        two = changed(self.papers, 1, None)
        deeds = [self.parties[0].reveal(), self.parties[2].reveal()]
        self.assertIs(may_draw(SHARES, changed(self.promises, 1, None), two, deeds, times), True)
        # Nobody takes part: the draw waits until the parties are ready.
        self.assertIs(may_draw(SHARES, self.promises, NONE, [], (40, 40, 40, 49)), False)
        self.assertIs(may_draw(SHARES, self.promises, NONE, [], (40, 40, 40, 50)), True)
        self.assertIs(may_draw(SHARES, NONE, NONE, [], (40, 40, 40, 40)), True)
        self.assertIs(may_draw(SHARES, NONE, NONE, [], (40, 40, 40, 10 ** 9 - 130)), True)
        self.assertIs(may_draw(SHARES, NONE, NONE, [], (40, 40, 40, 10 ** 9 - 129)), False)

    def test_results(self):
        # The second value is opened as 10, which does not count, as there are only 10 results.
        values = (3, 0, 7)
        for places in product((0, 1, 2), repeat=3):
            deeds, right = [], 0
            for party, place, value in zip(self.parties, places, values):
                if place == 0 and value != 0:
                    deeds.append(party.reveal())
                else:
                    deeds.append(party.withhold())
                right += value if place != 1 else 0
            for party, place, value in zip(self.parties, places, values):
                helps = [party.help(3), party.help(1)]
                if place == 2 or place == 0 and value == 0:
                    deeds += helps
                elif place == 1:
                    deeds += helps[:1]
            self.assertEqual(result(SHARES, self.promises, self.papers, deeds), right % 10)
            for many in range(3):
                with self.assertRaises(Refused):
                    result(SHARES, self.promises, self.papers, deeds[:many])

    def test_what_is_opened_beyond_m_does_not_count(self):
        # Of 6 results, and with q = 11: 8 would count as 2.
        charter = changed(changed(SHARES, 1, (("choice", 4, 2),)), 2, (((2,),), ((1,),)))
        self.assertIs(is_charter(charter), True)
        for value, right in ((5, 5), (6, 0), (7, 0), (8, 0), (10, 0)):
            party, other = Party(charter, 0, 0, self.chance, value), Party(charter, 0, 2, self.chance, 4)
            promises, papers = (party.seal, None, other.seal), (party.paper()[2:], None, other.paper()[2:])
            deeds = [party.withhold(), other.reveal(), party.help(2), party.help(1)]
            for at in range(4):
                self.assertIs(may_do(charter, 0, promises, papers, deeds[:at], deeds[at]), True)
            self.assertEqual(result(charter, promises, papers, deeds), (right + 4) % 6)

    def test_who_is_out_counts_as_0(self):
        papers = changed(self.papers, 0, None)
        self.assertEqual(result(SHARES, self.promises, papers, [self.withheld[1], self.parties[2].reveal()]), 7)
        self.assertEqual(result(SHARES, self.promises, NONE, []), 0)

    def test_any_shares_open_the_same(self):
        charter = changed(SHARES, 6, ("shares", 0, SMALL_GROUP, 3))
        self.assertIs(is_charter(charter), True)
        party = Party(charter, 0, 1, self.chance, 8)
        promises, papers = (None, party.seal, None), (None, party.paper()[2:], None)
        for order in ((1, 2, 3), (3, 1, 2), (2, 3, 1)):
            deeds = [party.withhold()] + [party.help(index) for index in order]
            for at in range(1, 4):
                self.assertIs(may_do(charter, 0, promises, papers, deeds[:at], deeds[at]), True)
            self.assertEqual(result(charter, promises, papers, deeds), 8)
            self.assertEqual(result(charter, promises, papers, deeds[:3]), 0)


class Times(unittest.TestCase):
    """The times with which a round can be drawn (points 190, 191, 196 and 197)."""

    def setUp(self):
        self.chance = random.Random(196)

    def each(self, charter, promises, papers, deeds, most):
        """Compare all times that do not descend with an office, and return those with which the round can be drawn."""
        right = []
        for times in combinations_with_replacement(range(most + 1), 4):
            found = may_draw(charter, promises, papers, deeds, times)
            self.assertIs(found, drawn_at(charter, promises, papers, deeds, times), (deeds, times))
            if found:
                right.append(times)
        return right

    def test_no_turn(self):
        for charter in (TURNS, SHARES):
            found = self.each(charter, NONE, NONE, [], 4)
            self.assertEqual(found, [(end, end, end, time) for end in range(5) for time in range(end, 5)])

    def test_one_turn(self):
        party = parties_of(TURNS, 0, self.chance)[1]
        for deed in (party.reveal(), party.withhold()):
            found = self.each(TURNS, (None, party.seal, None), NONE, [deed], 4)
            self.assertEqual(found, [times for times in combinations_with_replacement(range(5), 4) if times[1] == times[2]])

    def test_more_turns(self):
        parties = parties_of(TURNS, 0, self.chance)
        promises = tuple(party.seal for party in parties)
        deeds = [parties[0].reveal(), parties[1].withhold(), parties[2].reveal()]
        every = list(combinations_with_replacement(range(5), 4))
        self.assertEqual(self.each(TURNS, promises, NONE, deeds, 4), every)
        self.assertEqual(self.each(TURNS, changed(promises, 1, None), NONE, [deeds[0], deeds[2]], 4), every)

    def test_helps_are_no_turns(self):
        party = parties_of(SHARES, 0, self.chance)[1]
        promises, papers = (None, party.seal, None), (None, party.paper()[2:], None)
        found = self.each(SHARES, promises, papers, [party.withhold(), party.help(3), party.help(1)], 4)
        self.assertEqual(found, [times for times in combinations_with_replacement(range(5), 4) if times[1] == times[2]])

    def test_ready_at_the_first_turn(self):
        # The parties are ready when all papers were shown, or when patience, here 2, is over.
        charter = changed(SHARES, 7, (100, 30, 2))
        parties = parties_of(charter, 0, self.chance, (3, 9, 7))
        promises, papers = tuple(party.seal for party in parties), tuple(party.paper()[2:] for party in parties)
        every = list(combinations_with_replacement(range(6), 4))
        for marks in product((False, True), repeat=3):
            shown = tuple(paper if mark else None for paper, mark in zip(papers, marks))
            rows = [party for party, mark in zip(parties, marks) if mark]
            late = [times for times in every if all(marks) or times[1] >= times[0] + 2]
            if len(rows) == 0:
                late = [times for times in every if times[0] == times[1] == times[2] <= times[3] - 2]
            elif len(rows) == 1:
                late = [times for times in late if times[1] == times[2]]
            self.assertEqual(self.each(charter, promises, shown, [party.reveal() for party in rows], 5), late)
            # What was withheld is waited for until patience is over behind the last turn, too.
            waited = [times for times in late if len(rows) == 0 or times[3] >= times[2] + 2]
            self.assertEqual(self.each(charter, promises, shown, [party.withhold() for party in rows], 5), waited)

    def test_a_paper_that_does_not_stand(self):
        # It makes the parties ready, and its party has no turn.
        parties = parties_of(SHARES, 0, self.chance)
        promises = (parties[0].seal, None, parties[2].seal)
        out = parties[2].paper((1,), ())[2:]
        found = self.each(SHARES, promises, (parties[0].paper()[2:], None, out), [parties[0].withhold()], 12)
        self.assertEqual(found, [(end, turned, turned, time) for end, turned, time in combinations_with_replacement(range(13), 3) if time >= turned + 10])
        found = self.each(SHARES, (None, None, promises[2]), (None, None, out), [], 4)
        self.assertEqual(found, [(end, end, end, time) for end, time in combinations_with_replacement(range(5), 2)])


if __name__ == "__main__":
    unittest.main()
