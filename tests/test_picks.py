"""Points 112 to 114 and 121: drawing below a bound, and the pick of a seed."""

import random
import unittest
from collections import Counter
from fractions import Fraction
from itertools import product

from lotshown.errors import OutOfRange, Refused
from lotshown.games import is_pick, many
from lotshown.picks import chance_below, draw_below, drawn, is_manner, unfairness
from lotshown.ranks import pick_of
from tests.kinds import ODD_VALUES
from tests.machinery import pair
from tests.seeds import plain_draw, plain_stream

TOP = 10 ** 15
SMALL = [(kind, m, 1, base) for kind in ("mod", "scale") for m, base in ((1, 2), (3, 2), (1, 5), (2, 3), (1, 16), (2, 7))] + [
    ("again", m, tries, base) for m, tries, base in ((1, 1, 2), (3, 1, 2), (3, 3, 2), (1, 4, 5), (2, 3, 3), (1, 2, 16), (1, 6, 3))]


class Manners(unittest.TestCase):
    def test_manners(self):
        for kind in ("mod", "scale", "again"):
            for m, tries in product((-1, 0, 1, 2, 63, 64, 65), (-1, 0, 1, 2, 63, 64, 65)):
                right = 1 <= m <= 64 and (1 <= tries <= 64 if kind == "again" else tries == 1)
                self.assertIs(is_manner((kind, m, tries)), right)

    def test_other_kinds(self):
        for value in ODD_VALUES + (("mods", 1, 1), ("Mod", 1, 1), (None, 1, 1), (b"mod", 1, 1), (("mod",), 1, 1), ["mod", 1, 1], ("mod", 1),
                                   ("mod", 1, 1, 1), ("mod", True, 1), ("mod", 1, True), ("again", 1, None), ("mod", "1", 1),
                                   ("mod", 1.0, 1), ("again", 2, 3.0), ("mod", (1,), 1), "mod", ([], 1, 1)):
            self.assertIs(is_manner(value), False)


class Drawing(unittest.TestCase):
    def test_the_example(self):
        self.assertEqual(draw_below(6, ("again", 2, 3), 4, (3, 0, 3, 1, 1, 0)), (4, 6))

    def test_against_the_words(self):
        chance = random.Random(131)
        for kind, m, tries in (("mod", 1, 1), ("mod", 64, 1), ("scale", 1, 1), ("scale", 64, 1), ("scale", 5, 1), ("again", 1, 1),
                               ("again", 1, 64), ("again", 2, 5), ("again", 64, 64), ("mod", 7, 1)):
            for base in (2, 3, 10, 256):
                for n in (1, 2, 3, 7, 10, 100, 256, 65537, TOP - 1, TOP):
                    for _ in range(3):
                        row = tuple(chance.choice((0, base - 1, chance.randint(0, base - 1))) for _ in range(m * tries + 3))
                        found = draw_below(n, (kind, m, tries), base, row)
                        self.assertEqual(found, plain_draw(n, (kind, m, tries), base, row))
                        result, read = found
                        self.assertTrue(0 <= result < n and read in range(0, m * tries + 1, m))

    def test_rows_just_long_enough(self):
        for kind, m, tries, base in SMALL:
            for n in (1, 2, 3, 5, 100):
                for length in range(m * tries + 3):
                    for row in ((0,) * length, (base - 1,) * length, tuple(at % base for at in range(length))):
                        right = plain_draw(n, (kind, m, tries), base, row)
                        if right is None:
                            with self.assertRaises(Refused):
                                draw_below(n, (kind, m, tries), base, row)
                        else:
                            self.assertEqual(draw_below(n, (kind, m, tries), base, row), right)

    def test_again_reads_as_often_as_it_must(self):
        # Below 6 of 16, the numbers from 12 on are drawn again.
        for row, right in (((2, 3), (5, 2)), ((2, 3, 0, 0), (5, 2)), ((3, 0, 0, 1), (1, 4)), ((3, 3, 3, 2, 3, 1), (1, 6)),
                           ((3, 3, 3, 2, 1, 1, 3, 3), (5, 6))):
            self.assertEqual(draw_below(6, ("again", 2, 3), 4, row), right)
        for row in ((), (2,), (3, 0), (3, 0, 0), (3, 0, 3, 1), (3, 0, 3, 1, 3)):
            with self.assertRaises(Refused):
                draw_below(6, ("again", 2, 3), 4, row)
        # Where the bound is beyond all numbers, the last try gives the number itself.
        self.assertEqual(draw_below(17, ("again", 2, 3), 4, (0, 0, 0, 0, 3, 3)), (15, 6))
        self.assertEqual(draw_below(16, ("again", 2, 3), 4, (3, 3)), (15, 2))
        self.assertEqual(draw_below(17, ("mod", 2, 1), 4, (3, 3)), (15, 2))
        self.assertEqual(draw_below(160, ("scale", 2, 1), 4, (3, 3)), (150, 2))

    def test_below_1_nothing_is_read(self):
        for kind, m, tries, base in SMALL:
            self.assertEqual(draw_below(1, (kind, m, tries), base, ()), (0, 0))
            self.assertEqual(draw_below(1, (kind, m, tries), base, (1, 1)), (0, 0))

    def test_out_of_range(self):
        for n in (0, -1, TOP + 1, -TOP):
            for row in ((), (0,) * 10):
                with self.assertRaises(OutOfRange):
                    draw_below(n, ("mod", 2, 1), 2, row)
            with self.assertRaises(OutOfRange):
                chance_below(n, ("mod", 2, 1), 2, 0)
            with self.assertRaises(OutOfRange):
                unfairness(n, ("again", 2, 2), 2)
        self.assertEqual(draw_below(TOP, ("mod", 1, 1), 2, (1,)), (1, 1))
        with self.assertRaises(Refused):
            draw_below(TOP, ("mod", 2, 1), 2, (1,))


class Chances(unittest.TestCase):
    def test_the_example(self):
        self.assertEqual(chance_below(6, ("again", 2, 3), 4, 5), (21, 128))
        self.assertEqual(unfairness(6, ("mod", 2, 1), 4), (1, 12))

    def test_all_rows_counted(self):
        for kind, m, tries, base in SMALL:
            rows = list(product(range(base), repeat=m * tries))
            for n in (1, 2, 3, 4, 5, 6, 7, 8, 9, 12, 16, 17, 40, 1000):
                counts = Counter(draw_below(n, (kind, m, tries), base, row)[0] for row in rows)
                chances = []
                for result in list(range(min(n, 60))) + [n - 1]:
                    right = Fraction(counts[result], len(rows))
                    self.assertEqual(chance_below(n, (kind, m, tries), base, result), pair(right), (kind, m, tries, base, n, result))
                differ = sum(abs(Fraction(counts[result], len(rows)) - Fraction(1, n)) for result in range(n)) / 2
                self.assertEqual(unfairness(n, (kind, m, tries), base), pair(differ))
                self.assertEqual(differ == 0, base ** m % n == 0)
                for result in (-1, n, n + 1, 10 * n, -n):
                    self.assertEqual(chance_below(n, (kind, m, tries), base, result), (0, 1))

    def test_by_the_words(self):
        for manner, base, n in ((("mod", 64, 1), 256, TOP), (("scale", 64, 1), 256, TOP - 1), (("again", 64, 64), 256, TOP - 7),
                                (("again", 3, 20), 10, 7), (("mod", 3, 1), 10, 7), (("again", 4, 7), 10, 10 ** 6)):
            kind, m, tries = manner
            whole = base ** m
            q, s = divmod(whole, n)
            p = Fraction(s, whole) ** tries
            for result in (0, 1, s - 1, s, n - 1):
                if not 0 <= result < n:
                    continue
                if kind == "again":
                    right = (1 - p) / n + (p / s if result < s else 0)
                elif kind == "mod":
                    right = Fraction(q + (result < s), whole)
                else:
                    self.assertIn(chance_below(n, manner, base, result), (pair(Fraction(q, whole)), pair(Fraction(q + 1, whole))))
                    continue
                self.assertEqual(chance_below(n, manner, base, result), pair(right))
            right = p * (n - s) / n if kind == "again" else Fraction(s * (n - s), n * whole)
            self.assertEqual(unfairness(n, manner, base), pair(right))

    def test_below_1(self):
        for manner in (("mod", 1, 1), ("scale", 64, 1), ("again", 3, 64)):
            self.assertEqual(chance_below(1, manner, 10, 0), (1, 1))
            self.assertEqual(chance_below(1, manner, 10, 1), (0, 1))
            self.assertEqual(unfairness(1, manner, 10), (0, 1))


class Picks(unittest.TestCase):
    def plain(self, game, seed):
        picks = many(game)
        m = next(size for size in range(1, 9) if picks - 1 < 256 ** size)
        number = plain_draw(picks, ("again", m, 16), 256, plain_stream(seed, 16 * m))[0]
        return pick_of(game, number)

    def test_picks_of_seeds(self):
        for game in ((("choice", 6, 2), ("tail", 3, 2)), (("choice", 49, 6),), (("figures", 2, 8),), (("figures", 16, 2), ("figures", 2, 1)),
                     (("tail", 36, 8),), (("choice", 3, 3),), (("figures", 10, 8), ("tail", 10, 7)), (("figures", 2, 1),)):
            for seed in ((0,), (1, 2, 3), (255,) * 64, (9, 9)):
                pick = drawn(game, seed)
                self.assertEqual(pick, self.plain(game, seed))
                self.assertIs(is_pick(game, pick), True)

    def test_one_pick(self):
        for seed in ((0,), (5,) * 64):
            self.assertEqual(drawn((("choice", 3, 3),), seed), ((1, 2, 3),))

    def test_numbers_of_octets(self):
        # 256 picks need one octet, and 512 picks two.
        self.assertEqual(drawn((("figures", 2, 8),), (4,)), (tuple(int(bit) for bit in format(plain_stream((4,), 1)[0], "08b")),))
        first = plain_stream((4,), 2)
        number = (first[0] * 256 + first[1]) % 512
        self.assertEqual(drawn((("figures", 2, 8), ("figures", 2, 1)), (4,)), pick_of((("figures", 2, 8), ("figures", 2, 1)), number))

    def test_numbers_that_are_drawn_again(self):
        # Below 36, octets from 252 on are drawn again: some seed begins with one of them.
        game = (("figures", 6, 2),)
        seed = next((at, other) for at in range(256) for other in range(256) if plain_stream((at, other), 1)[0] >= 252)
        octets = plain_stream(seed, 16)
        later = next(octet for octet in octets if octet < 252)
        self.assertEqual(drawn(game, seed), pick_of(game, later % 36))

    def test_the_last_try(self):
        # Below 129, the first 16 octets of this stream are all drawn again, and the 16th one counts.
        game, seed = (("choice", 43, 1), ("choice", 3, 1)), (14, 190, 2)
        octets = plain_stream(seed, 17)
        self.assertEqual((many(game), min(octets[:16]), octets[14:]), (129, 129, (245, 236, 67)))
        self.assertEqual(drawn(game, seed), pick_of(game, 236 - 129))

    def test_many_tries_with_two_octets(self):
        game, seed = (("choice", 91, 1), ("choice", 11, 1), ("choice", 33, 1)), (4, 67)
        numbers = [high * 256 + low for high, low in zip(plain_stream(seed, 32)[::2], plain_stream(seed, 32)[1::2])]
        self.assertEqual((many(game), [number < 33033 for number in numbers[:11]]), (33033, [False] * 10 + [True]))
        self.assertEqual(drawn(game, seed), pick_of(game, numbers[10]))


if __name__ == "__main__":
    unittest.main()
