"""Points 32, 52, 54, 55 and 57 together: a pick whose number was dealt is told from shares, false ones between."""

import random
import unittest

from lotshown.checked import checks, open_checked, row_of, share_of
from lotshown.errors import Refused
from lotshown.games import is_pick, many
from lotshown.ranks import number_of, pick_of
from lotshown.sharing import count
from tests.groups import GREAT

GAMES = ((("choice", 6, 2), ("tail", 3, 2)), (("choice", 49, 6),), (("figures", 10, 8), ("tail", 10, 7)), (("choice", 3, 3),))


class SecretPicks(unittest.TestCase):
    def test_picks_are_told(self):
        chance = random.Random(101)
        q = GREAT[1]
        for game in GAMES:
            for threshold in range(1, 9):
                pick = pick_of(game, chance.randint(0, many(game) - 1))
                dealing = ((number_of(game, pick),) + tuple(chance.randint(0, q - 1) for _ in range(threshold - 1)),
                           tuple(chance.randint(0, q - 1) for _ in range(threshold)))
                row = row_of(GREAT, dealing)
                good = [share_of(GREAT, dealing, index) for index in chance.sample(range(1, 13), threshold)]
                false = [(index, (value + 1) % q, blind) for index, value, blind in good]
                shares = [share for pair in zip(false, good) for share in pair]
                self.assertEqual([checks(GREAT, row, share) for share in shares], [False, True] * threshold)
                secret, _ = open_checked(GREAT, row, shares)
                found = pick_of(game, secret)
                self.assertEqual(found, pick)
                self.assertIs(is_pick(game, found), True)
                with self.assertRaises(Refused):
                    open_checked(GREAT, row, shares[:-1])

    def test_fewer_shares_leave_all_picks(self):
        game = (("choice", 5, 2),)
        group = (23, 11, 2, 3)
        dealing = ((number_of(game, ((2, 4),)), 3, 7), (1, 2, 5))
        points = tuple(share_of(group, dealing, index)[:2] for index in (1, 4))
        self.assertEqual([count(11, 3, points, number) for number in range(many(game))], [1] * 10)
        more = points + (share_of(group, dealing, 5)[:2],)
        counts = [count(11, 3, more, number) for number in range(many(game))]
        self.assertEqual([pick_of(game, number) for number in range(10) if counts[number]], [((2, 4),)])


if __name__ == "__main__":
    unittest.main()
