"""Points 185 to 187: charters, what results draw, and what a deed is."""

import unittest

from lotshown.charter import is_charter, is_deed, pick_by, scheme_of, size_of
from lotshown.errors import Refused
from lotshown.games import many
from lotshown.octets import of_number
from lotshown.picks import drawn
from lotshown.ranks import pick_of
from lotshown.schemes import is_scheme
from tests.groups import GREAT
from tests.kinds import ODD_VALUES
from tests.offices import BROAD, CLASSES, GAME, SHARES, SHARES_OF_OCTETS, SMALL_GROUP, TABLE, TURNS, TURNS_OF_OCTETS, changed

SALT = (7,) * 16
TOP = 2 ** 62
SEAL = "00112233"


def with_way(charter, at, value):
    return changed(charter, 6, changed(charter[6], at, value))


class Charters(unittest.TestCase):
    def each(self, rows):
        for value, right in rows:
            self.assertIs(is_charter(value), right, value)

    def test_charters(self):
        self.each([(TURNS, True), (SHARES, True), (TURNS_OF_OCTETS, True), (SHARES_OF_OCTETS, True), (BROAD, True), (list(TURNS), False), (TURNS[:8], False),
                   (TURNS + (1,), False)])

    def test_width(self):
        self.each([(changed(TURNS, 0, width), right) for width, right in ((1, True), (32, True), (0, False), (33, False), (True, False), (None, False))])

    def test_game_classes_and_table(self):
        other = (("figures", 2, 1),)
        self.each([
            (changed(TURNS, 1, other), False), (changed(changed(TURNS, 1, other), 2, (((1,),), ((0,),))), True), (changed(TURNS, 1, ()), False),
            (changed(TURNS, 1, list(GAME)), False), (changed(TURNS, 1, None), False), (changed(TURNS, 2, (((2,),), ((3,),))), False),
            (changed(TURNS, 2, CLASSES[:1]), False), (changed(TURNS, 2, CLASSES + (((0,),),)), False), (changed(TURNS, 2, ()), False),
            (changed(TURNS, 2, (((2,),), ((2,),))), False), (changed(changed(TURNS, 2, CLASSES[:1]), 3, changed(TABLE, 3, TABLE[3][:1])), True),
            (changed(TURNS, 3, changed(TABLE, 3, TABLE[3][:1])), False), (changed(TURNS, 3, changed(TABLE, 0, 0)), False), (changed(TURNS, 3, None), False),
            (changed(TURNS, 3, changed(TABLE, 1, (3, 4))), False), (changed(TURNS, 3, list(TABLE)), False),
        ])

    def test_blocks(self):
        self.each([(changed(TURNS, 4, ()), True), (changed(TURNS, 4, ((0, 10 ** 15, "sal"),)), True), (changed(TURNS, 4, ((5, 5, "sal"),)), False),
                   (changed(TURNS, 4, ((0, 5, "sal"), (4, 9, "sal"))), False), (changed(TURNS, 4, []), False), (changed(TURNS, 4, None), False)])

    def test_parties(self):
        six = ("f", "e", "d", "c", "b", "a")
        self.each([
            (changed(TURNS, 5, six), True), (changed(TURNS, 5, six[:1]), True), (changed(TURNS, 5, ()), False), (changed(TURNS, 5, six + ("g",)), False),
            (changed(TURNS, 5, ("pat", "pat")), False), (changed(TURNS, 5, ("pat", "quin", "pat")), False), (changed(TURNS, 5, ("pat", "")), False),
            (changed(TURNS, 5, ("pat", "Quin")), False), (changed(TURNS, 5, ["pat"]), False), (changed(TURNS, 5, "pat"), False), (changed(TURNS, 5, None), False),
            (changed(TURNS, 5, ("pat", None)), False), (changed(TURNS, 5, (("pat",),)), False),
        ])

    def test_terms_and_reserve(self):
        for at in range(3):
            for value, right in ((1, True), (10 ** 6, True), (0, False), (10 ** 6 + 1, False), (-1, False), (True, False), (None, False), ("1", False)):
                self.each([(changed(TURNS, 7, changed(TURNS[7], at, value)), right)])
        self.each([(changed(TURNS, 7, list(TURNS[7])), False), (changed(TURNS, 7, TURNS[7][:2]), False), (changed(TURNS, 7, TURNS[7] + (1,)), False)])
        for value, right in ((0, True), (10 ** 12, True), (10 ** 12 + 1, False), (-1, False), (False, False), (None, False)):
            self.each([(changed(TURNS, 8, value), right)])

    def test_turns(self):
        for at, value, right in (
            (0, "turns", True), (0, "shares", False), (0, "beacon", False), (0, "again", False), (0, None, False), (1, 1, True), (1, 7, True), (1, 8, False),
            (1, -1, False), (1, True, False), (1, False, False), (1, None, False), (2, SMALL_GROUP, False), (2, (), False), (2, 0, False), (3, 1, False),
            (3, None, False), (3, False, False), (3, -1, False),
        ):
            self.each([(with_way(TURNS, at, value), right)])
        self.each([(changed(TURNS, 6, value), False) for value in (list(TURNS[6]), TURNS[6][:3], TURNS[6] + (0,), None, "turns")])

    def test_the_size_is_at_least_2(self):
        one, two = (("choice", 1, 1),), (("choice", 2, 1),)
        classes = (((1,),), ((0,),))
        for game, octets, right in ((one, 0, False), (one, 1, True), (two, 0, True), ((("choice", 3, 3),), 0, False), ((("choice", 10, 10),) * 4, 0, False)):
            charter = changed(changed(TURNS, 1, game), 2, classes if len(game) == 1 and game[0][2] == 1 else (((3,),), ((2,),)) if len(game) == 1 else
                              (((1, 1, 1, 1),), ((2, 2, 2, 2),)))
            self.each([(with_way(charter, 1, octets), right)])

    def test_shares(self):
        for at, value, right in (
            (3, 1, True), (3, 3, True), (3, 0, False), (3, 4, False), (3, True, False), (3, None, False), (2, None, False), (2, (23, 11, 2, 1), False),
            (2, (23, 11, 2, 5), False), (2, list(SMALL_GROUP), False), (2, SMALL_GROUP[:3], False), (2, GREAT, True), (0, "turns", False), (1, 1, False),
        ):
            self.each([(with_way(SHARES, at, value), right)])
        self.each([(with_way(with_way(SHARES, 2, GREAT), 1, octets), right) for octets, right in ((1, True), (7, True), (8, False))])

    def test_q_and_the_size(self):
        # The q of these groups is 11, 5 and 3.
        groups = {11: SMALL_GROUP, 5: (11, 5, 3, 4), 3: (7, 3, 2, 4)}
        for k, n, q, right in ((1, 11, 11, True), (1, 12, 11, False), (1, 5, 5, True), (1, 6, 5, False), (1, 4, 5, True), (1, 3, 3, True), (1, 2, 3, True), (1, 4, 3, False)):
            charter = changed(changed(changed(SHARES, 1, (("choice", n, k),)), 2, (((1,),), ((0,),))), 5, ("pat", "quin"))
            self.each([(with_way(charter, 2, groups[q]), right)])
        # And q is greater than the number of the parties.
        charter = changed(changed(SHARES, 1, (("choice", 3, 1),)), 2, (((1,),), ((0,),)))
        for parties, q, right in (("ab", 3, True), ("abc", 3, False), ("abcd", 5, True), ("abcde", 5, False), ("abcdef", 5, False), ("abcdef", 11, True)):
            self.each([(with_way(changed(charter, 5, tuple(parties)), 2, groups[q]), right)])

    def test_other_kinds(self):
        for value in ODD_VALUES:
            self.each([(value, False)])
            for at in range(9):
                right = at == 8 and isinstance(value, int) and not isinstance(value, bool) and value in (0, 1, 7)
                right = right or at == 0 and isinstance(value, int) and not isinstance(value, bool) and value in (1, 7)
                right = right or at == 4 and isinstance(value, tuple) and value == ()
                right = right or at == 5 and value in (("ann",), ("ann", "bob"))
                right = right or at == 7 and isinstance(value, tuple) and value == (1, 2, 3)
                self.each([(changed(TURNS, at, value), right)])


class Draws(unittest.TestCase):
    def test_sizes(self):
        self.assertEqual(size_of(TURNS), many(GAME))
        self.assertEqual(size_of(SHARES), 10)
        self.assertEqual(size_of(TURNS_OF_OCTETS), 65536)
        self.assertEqual(size_of(SHARES_OF_OCTETS), 256 ** 7)
        self.assertEqual(size_of(with_way(TURNS, 1, 1)), 256)

    def test_picks(self):
        for result in range(10):
            self.assertEqual(pick_by(TURNS, result), pick_of(GAME, result))
            self.assertEqual(pick_by(SHARES, result), pick_of(GAME, result))
        for result in (0, 1, 255, 256, 65535):
            self.assertEqual(pick_by(TURNS_OF_OCTETS, result), drawn(GAME, of_number(result, 2)))
        for result in (0, 5, 256 ** 7 - 1):
            self.assertEqual(pick_by(BROAD, result), drawn(BROAD[1], of_number(result, 7)))
        self.assertEqual(pick_by(with_way(TURNS, 1, 1), 65), drawn(GAME, (65,)))

    def test_schemes(self):
        self.assertEqual(scheme_of(TURNS), ("turns", 10, (0, 1, 2), ()))
        self.assertEqual(scheme_of(SHARES), ("shares", 10, (0, 1, 2), (2,)))
        self.assertEqual(scheme_of(changed(TURNS, 5, ("z",))), ("turns", 10, (0,), ()))
        for n in range(2, 14):
            charter = changed(changed(TURNS, 1, (("choice", n, 1),)), 2, (((1,),), ((0,),)))
            self.assertIs(is_charter(charter), True)
            if n <= 12:
                self.assertEqual(scheme_of(charter), ("turns", n, (0, 1, 2), ()))
                self.assertIs(is_scheme(scheme_of(charter)), True)
            else:
                with self.assertRaises(Refused):
                    scheme_of(charter)
        for charter in (TURNS_OF_OCTETS, SHARES_OF_OCTETS, with_way(TURNS, 1, 1)):
            with self.assertRaises(Refused):
                scheme_of(charter)


class Deeds(unittest.TestCase):
    def each(self, charter, rows):
        for value, right in rows:
            self.assertIs(is_deed(charter, value), right, value)

    def places(self, charter, deed, rows):
        """Change a deed that is one at one place after the other."""
        self.each(charter, [(deed, True), (deed[:-1], False), (deed + (1,), False), (list(deed), False), (deed + deed[-1:], False)])
        self.each(charter, [(changed(deed, at, value), right) for at, value, right in rows])

    def names(self, at):
        return [(at, name, right) for name, right in (("nobody", True), ("a" * 16, True), ("a" * 17, False), ("", False), ("Pat", False), (None, False), (0, False))]

    def values(self, at):
        return [(at, value, right) for value, right in ((0, True), (TOP, True), (TOP + 1, False), (-1, False), (True, False), (None, False), ("1", False))]

    def salts(self, at):
        return [(at, salt, right) for salt, right in (((255,) * 16, True), ((0,) * 32, True), ((0,) * 33, False), ((0,) * 15, False), ((0,) * 64, False),
                                                      ([0] * 16, False), (None, False), ((256,) * 16, False), ((True,) * 16, False), (5, False))]

    def test_plain_deeds(self):
        for charter in (TURNS, SHARES):
            self.each(charter, [(("seal",), True), (("draw",), True), (("seal", 1), False), (("draw", None), False), (("seal", ()), False), ((), False),
                                (("",), False), (("Draw",), False), ("draw", False), (["draw"], False), (("pass",), False)])
            self.places(charter, ("pass", 5), [(1, 0, True), (1, 10 ** 9, True), (1, 10 ** 9 + 1, False), (1, -1, False), (1, True, False), (1, None, False)])
            self.places(charter, ("withhold", "pat"), self.names(1))
            self.places(charter, ("promise", "pat", SEAL), self.names(1) + [
                (2, SEAL[:6], False), (2, SEAL + "44", False), (2, "0011223g", False), (2, "001122AA", False), (2, None, False), (2, (0, 17, 34, 51), False)])

    def test_reveals(self):
        self.places(TURNS, ("reveal", "pat", 3, SALT), self.names(1) + self.values(2) + self.salts(3))
        self.places(SHARES, ("reveal", "pat", 3, 5), self.names(1) + self.values(2) + self.values(3))
        self.each(TURNS, [(("reveal", "pat", 3, 5), False)])
        self.each(SHARES, [(("reveal", "pat", 3, SALT), False)])

    def test_helps_and_papers(self):
        help_deed = ("help", "pat", 1, 2, 3)
        paper = ("paper", "pat", ((1, 2), (1,), ((1, 2, 3),)), SALT)
        self.each(TURNS, [(help_deed, False), (paper, False)])
        self.places(SHARES, help_deed, self.names(1) + self.values(2) + self.values(3) + self.values(4))
        self.places(SHARES, paper, self.names(1) + self.salts(3))
        for shown, right in (
            (((), (), ()), True), (((1,) * 6, (0,) * 5, ((0, 0, 0),) * 5), True), (((TOP,), (TOP,), ((TOP, TOP, TOP),)), True), (((1,) * 7, (), ()), False),
            (((), (1,) * 6, ()), False), (((), (), ((1, 2, 3),) * 6), False), (((TOP + 1,), (), ()), False), (((), (TOP + 1,), ()), False),
            (((), (), ((1, 2, TOP + 1),)), False), (((-1,), (), ()), False), (((), (-1,), ()), False), (((), (), ((-1, 2, 3),)), False),
            (((), (), ((1, 2),)), False), (((), (), ((1, 2, 3, 4),)), False), (((), (), (5,)), False), (((), (), ([1, 2, 3],)), False), (([], (), ()), False),
            (((), [], ()), False), (((), (), []), False), (((True,), (), ()), False), (((), (True,), ()), False), (((), (), ((True, 2, 3),)), False),
            (((), ()), False), (((), (), (), ()), False), ([(), (), ()], False), (None, False), (((None,), (), ()), False),
        ):
            self.each(SHARES, [(changed(paper, 2, shown), right)])

    def test_sales(self):
        sale = ("sell", "sal", 7, ((1, 2, 3),), "named", "ann")
        bearer = sale[:4] + ("bearer", (SEAL, SEAL))
        for charter in (TURNS, SHARES):
            self.places(charter, sale, self.names(1) + self.names(5) + [
                (2, 0, True), (2, 999999, True), (2, 1000000, False), (2, -1, False), (2, True, False), (2, None, False),
                (3, ((1, 2),), True), (3, ((1, 2, 3, 4, 5),), True), (3, ((1,),), False), (3, ((1, 6),), False), (3, ((2, 1),), False), (3, (1, 2), False), (3, (), False),
                (3, None, False), (4, "bearer", False), (4, "Named", False), (4, None, False), (5, (SEAL, SEAL), False)])
            self.places(charter, bearer, [(4, "named", False), (5, (SEAL, SEAL[:6]), False), (5, (SEAL,), False), (5, [SEAL, SEAL], False), (5, "ann", False)])
        # Whether a system holds too many picks is no matter of its form.
        self.each(BROAD, [(("sell", "sal", 7, (tuple(range(1, 101)), ((0,), (35,)), ((0,), (1,), (2,))), "named", "ann"), True)])

    def test_events(self):
        for word, more, others in (("claim", None, ["bob", SALT, 0, ()]), ("take", None, ["bob", SALT]), ("yield", None, ["bob", SALT]), ("rule", None, ["bob", SALT]),
                                   ("pass", "bob", [None, SALT, "Bob"]), ("show", SALT, [None, "bob"]), ("lost", SALT, [None, "bob"])):
            event = ("event", 0, 7, word, "ann", more)
            for charter in (TURNS, SHARES):
                self.places(charter, event, self.names(4) + [(1, 10 ** 6, True), (1, 10 ** 6 + 1, False), (1, -1, False), (1, True, False), (2, 999999, True), (2, 1000000, False),
                                                             (2, -1, False), (2, False, False), (3, "win", False), (3, None, False)] + [(5, other, False) for other in others])
                if more == SALT:
                    self.places(charter, event, self.salts(5))

    def test_other_kinds(self):
        for charter in (TURNS, SHARES):
            for deed in (("seal",), ("withhold", "pat"), ("promise", "pat", SEAL), ("help", "pat", 1, 2, 3), ("paper", "pat", ((), (), ()), SALT), ("reveal", "pat", 3, SALT),
                         ("reveal", "pat", 3, 5), ("sell", "sal", 7, ((1, 2),), "named", "ann"), ("event", 0, 7, "claim", "ann", None)):
                for word in ("", "deed", deed[0] + "s", deed[0].upper(), None, 0, True, (deed[0],), [deed[0]]):
                    self.each(charter, [((word,) + deed[1:], False)])
            for value in ODD_VALUES:
                self.each(charter, [(value, False), ((value,), False), ((value, value), False), (("pass", value), value in (0, 1, 7) and isinstance(value, int)
                                                                                                 and not isinstance(value, bool))])


if __name__ == "__main__":
    unittest.main()
