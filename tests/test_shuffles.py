"""Points 115 and 116: recipes, and what draws give on rows."""

import random
import unittest
from itertools import product

from lotshown.errors import NotThere, Refused
from lotshown.games import is_pick
from lotshown.picks import drawn
from lotshown.shuffles import is_draw, is_recipe, most_read, play, play_seed
from tests.kinds import ODD_VALUES
from tests.recipes import GAME, RECIPES, plain_play
from tests.seeds import plain_draw, plain_stream

TOP = 10 ** 15
MANNERS = (("mod", 1, 1), ("mod", 3, 1), ("scale", 1, 1), ("scale", 2, 1), ("again", 1, 1), ("again", 1, 5), ("again", 2, 3))


def plain_result(draw, row):
    """Return what the draw gives and how many digits it reads, or None if the row is too short."""
    recipe, manner, base = draw
    read = [0]

    class Short(Exception):
        pass

    def below(n):
        found = plain_draw(n, manner, base, row[read[0]:])
        if found is None:
            raise Short
        read[0] += found[1]
        return found[0]

    try:
        return plain_play(recipe, below), read[0]
    except Short:
        return None


class Recipes(unittest.TestCase):
    def check(self, cases):
        for value, right in cases:
            self.assertIs(is_recipe(value), right, value)

    def test_below_and_figures(self):
        self.check(((("below", n), 1 <= n <= TOP) for n in (-1, 0, 1, 2, TOP, TOP + 1)))
        self.check(((("figures", n, k), 1 <= n <= TOP and 1 <= k <= 12)
                    for n, k in product((-1, 0, 1, 2, TOP, TOP + 1), (-1, 0, 1, 2, 12, 13))))
        self.check(((("below", True), False), (("below", 5, 1), False), (("below",), False), (("figures", 5), False),
                    (("figures", 5, True), False), (("figures", True, 5), False), (("below", None), False), (("below", (5,)), False)))

    def test_subsets_and_orders(self):
        self.check(((("subset", n, k), 1 <= n <= 100 and 1 <= k <= min(n, 12))
                    for n, k in product((0, 1, 2, 5, 11, 12, 13, 99, 100, 101), (-1, 0, 1, 2, 3, 5, 6, 11, 12, 13))))
        self.check(((("order", n), 1 <= n <= 12) for n in (-1, 0, 1, 2, 11, 12, 13)))
        self.check(((("order", True), False), (("order", 3, 3), False), (("subset", 3), False), (("subset", True, 1), False),
                    (("subset", 3, None), False), (("subset", "3", 1), False)))

    def test_weights(self):
        self.check((
            (("weights", (1,), 1), True), (("weights", (0,), 1), False), (("weights", (0, 0, 0), 1), False), (("weights", (0,), 0), False),
            (("weights", (), 1), False), (("weights", (), 0), False), (("weights", (1000, 0), 1), True), (("weights", (1001, 0), 1), False),
            (("weights", (-1, 5), 1), False), (("weights", (1, 0, 1), 2), True), (("weights", (1, 0, 1), 3), False),
            (("weights", (1, 0, 1), 0), False), (("weights", (1,) * 12, 12), True), (("weights", (1,) * 13, 12), False),
            (("weights", (1,) * 12, 13), False), (("weights", [1, 2], 1), False), (("weights", (1, True), 1), False),
            (("weights", (1, None), 1), False), (("weights", (1, 2), True), False), (("weights", 5, 1), False), (("weights", (1, 2)), False),
        ))

    def test_games(self):
        for word in ("game", "number"):
            self.check((((word, GAME), True), ((word, (("choice", 49, 6),)), True), ((word, ()), False), ((word, GAME, 1), False),
                        ((word, (("choice", 5, 6),)), False), ((word, (("figures", 36, 8), ("figures", 36, 8))), False),
                        ((word, None), False), ((word, list(GAME)), False), ((word,), False)))

    def test_other_kinds(self):
        self.check((value, False) for value in ODD_VALUES + (
            ["below", 5], ("Below", 5), (None, 5), ("belo", 5), (b"below", 5), (("below",), 5), ([], 5), ([], 5, 1), ("mod", 5, 1), "below", ("games", GAME),
            (None, GAME), ("weight", (1, 2), 1), (None, (1, 2), 1)))

    def test_draws(self):
        for recipe in RECIPES:
            self.assertIs(is_recipe(recipe), True)
            for base in (1, 2, 3, 255, 256, 257, 0, True, None, 2.0, "2"):
                right = type(base) is int and 2 <= base <= 256
                self.assertIs(is_draw((recipe, ("mod", 1, 1), base)), right)
        good = (("below", 5), ("again", 2, 3), 10)
        self.assertIs(is_draw(good), True)
        for wrong in ODD_VALUES + (list(good), good[:2], good + (1,), (("below", 0), ("again", 2, 3), 10), (None, ("again", 2, 3), 10),
                                   (("below", 5), ("mod", 2, 3), 10), (("below", 5), ["again", 2, 3], 10), (("below", 5), None, 10)):
            self.assertIs(is_draw(wrong), False)


class Playing(unittest.TestCase):
    def test_the_example(self):
        self.assertEqual(play((("subset", 4, 2), ("scale", 1, 1), 4), (2, 3, 1)), ((3, 4), 2))

    def test_by_hand(self):
        manner = ("mod", 1, 1)
        for recipe, row, right in (
            (("below", 7), (9,), (2, 1)), (("figures", 7, 3), (9, 1, 6), ((2, 1, 6), 3)), (("order", 4), (0, 0, 0), ((1, 2, 3, 4), 3)),
            (("order", 4), (3, 2, 1), ((4, 1, 2, 3), 3)), (("order", 4), (1, 1, 1), ((2, 3, 4, 1), 3)),
            (("subset", 4, 3), (1, 1, 1), ((2, 3, 4), 3)), (("subset", 4, 4), (1, 2, 0), ((1, 2, 3, 4), 3)),
            (("weights", (2, 0, 1, 3), 3), (2, 4, 1), ((2, 3, 0), 3)), (("weights", (2, 0, 1, 3), 2), (0, 0), ((0, 2), 2)),
            (("weights", (2, 0, 1, 3), 2), (5, 2), ((3, 2), 2)), (("weights", (2, 0, 1, 3), 3), (5, 0, 0), ((3, 0, 2), 2)),
            (("game", (("choice", 4, 2), ("tail", 3, 2))), (3, 0, 2, 1), (((2, 4), (2, 1)), 4)),
            (("number", (("choice", 4, 2),)), (5,), (((3, 4),), 1)), (("order", 1), (), ((1,), 0)),
            (("figures", 1, 5), (), ((0, 0, 0, 0, 0), 0)), (("weights", (0, 1), 1), (), ((1,), 0)),
        ):
            self.assertEqual(play((recipe, manner, 10), row), right, recipe)

    def test_against_the_words(self):
        chance = random.Random(141)
        for recipe in RECIPES + (("figures", TOP, 12), ("subset", 100, 12), ("order", 12), ("weights", (0, 5, 1000, 7) * 3, 9),
                                 ("game", (("choice", 49, 6), ("figures", 10, 4))), ("number", (("choice", 49, 6),))):
            for manner in MANNERS:
                for base in (2, 3, 10, 256):
                    draw = (recipe, manner, base)
                    most = most_read(draw)
                    for _ in range(4):
                        row = tuple(chance.choice((0, base - 1, chance.randint(0, base - 1))) for _ in range(most + 2))
                        result, read = play(draw, row)
                        self.assertEqual((result, read), plain_result(draw, row))
                        self.assertLessEqual(read, most)
                        # What stands behind what was read does not matter, and one digit less is too short.
                        self.assertEqual(play(draw, row[:read]), (result, read))
                        self.assertEqual(play(draw, row[:read] + tuple(base - 1 - digit for digit in row[read:])), (result, read))
                        for length in range(max(0, read - 3), read):
                            with self.assertRaises(Refused):
                                play(draw, row[:length])

    def test_the_most_digits(self):
        for recipe, drawings in ((("below", 1), 0), (("below", 2), 1), (("figures", 1, 12), 0), (("figures", 2, 12), 12),
                                 (("subset", 5, 2), 2), (("subset", 5, 4), 4), (("subset", 5, 5), 4), (("subset", 1, 1), 0),
                                 (("order", 1), 0), (("order", 12), 11), (("weights", (1, 1, 1), 3), 2), (("weights", (1, 1, 1), 2), 2),
                                 (("weights", (1, 0, 2, 1), 3), 3), (("weights", (1,), 1), 0), (("weights", (2,), 1), 1),
                                 (("weights", (0, 1, 0), 1), 0), (("weights", (1, 1), 1), 1), (("game", GAME), 5),
                                 (("game", (("choice", 3, 3), ("tail", 2, 8))), 10), (("game", (("choice", 1, 1),)), 0),
                                 (("number", GAME), 1), (("number", (("choice", 3, 3),)), 0)):
            for kind, m, tries in MANNERS + (("again", 64, 64), ("scale", 64, 1)):
                self.assertEqual(most_read((recipe, (kind, m, tries), 5)), m * tries * drawings, recipe)

    def test_the_most_digits_are_read_at_times(self):
        # With one digit and one try each drawing below a greater number than 1 reads one digit.
        for recipe in RECIPES:
            draw = (recipe, ("mod", 1, 1), 7)
            most = most_read(draw)
            rows = product(range(7), repeat=min(most, 5))
            self.assertEqual(max(play(draw, row + (0,) * (most - len(row)))[1] for row in rows), most)
        # No number of two digits of the base 4 is drawn again below 16, but as many digits are counted.
        self.assertEqual(most_read((("below", 16), ("again", 2, 9), 4)), 18)

    def test_results_of_games_are_picks(self):
        chance = random.Random(142)
        for word in ("game", "number"):
            for _ in range(50):
                row = tuple(chance.randint(0, 9) for _ in range(20))
                self.assertIs(is_pick(GAME, play(((word, GAME), ("mod", 2, 1), 10), row)[0]), True)


class Seeds(unittest.TestCase):
    def digits(self, seed, base, count):
        size = {2: 1, 4: 2, 16: 4, 256: 8}[base]
        bits = "".join(format(octet, "08b") for octet in plain_stream(seed, count * size // 8 + 1))
        return tuple(int(bits[at * size:at * size + size], 2) for at in range(count))

    def test_seeds(self):
        for recipe in RECIPES:
            for manner in MANNERS + (("again", 8, 64),):
                for base in (2, 4, 16, 256):
                    draw = (recipe, manner, base)
                    right = plain_result(draw, self.digits((1, 5), base, most_read(draw)))[0]
                    self.assertEqual(play_seed(recipe, manner, base, (1, 5)), right)

    def test_other_bases(self):
        for base in (3, 5, 8, 10, 32, 255):
            for recipe in (("below", 5), ("below", 1)):
                with self.assertRaises(NotThere):
                    play_seed(recipe, ("mod", 1, 1), base, (1,))

    def test_the_pick_of_a_seed(self):
        self.assertEqual(play_seed(("number", GAME), ("again", 1, 16), 256, (7, 8)), drawn(GAME, (7, 8)))

    def test_more_digits_than_a_stream_tells_at_once(self):
        # 40 drawings of 64 tries with 64 digits each may read 163840 digits.
        game = tuple(("choice", 15, 10) for _ in range(4))
        self.assertEqual(most_read((("game", game), ("again", 64, 64), 4)), 163840)
        found = play_seed(("game", game), ("again", 64, 64), 4, (3,))
        self.assertEqual(found, plain_result((("game", game), ("again", 64, 64), 4), self.digits((3,), 4, 4000))[0])


if __name__ == "__main__":
    unittest.main()
