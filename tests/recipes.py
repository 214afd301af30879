"""Recipes for the tests, and what they give, told plainly."""

from fractions import Fraction

from lotshown.games import many
from lotshown.ranks import pick_of

GAME = (("choice", 4, 2), ("tail", 3, 1), ("figures", 2, 2))
RECIPES = (
    ("below", 1), ("below", 5), ("figures", 3, 2), ("figures", 1, 12), ("subset", 4, 2), ("subset", 3, 3), ("subset", 1, 1),
    ("subset", 5, 1), ("order", 1), ("order", 3), ("order", 4), ("weights", (2, 0, 1, 3), 2), ("weights", (2, 0, 1, 3), 3),
    ("weights", (1, 1, 1), 3), ("weights", (0, 7), 1), ("weights", (1,), 1), ("weights", (1000,) * 3, 2), ("game", GAME),
    ("game", (("choice", 3, 3),)), ("number", GAME), ("number", (("choice", 2, 2),)), ("number", (("figures", 5, 1),)),
)


def plain_play(recipe, below):
    """Return the result, where below is asked for each number that is drawn."""
    word, more = recipe[:2]
    if word == "below":
        return below(more)
    if word == "figures":
        return tuple(below(more) for _ in range(recipe[2]))
    if word in ("subset", "order"):
        row = list(range(1, more + 1))
        k = recipe[2] if word == "subset" else more
        for j in range(k):
            r = below(more - j)
            row[j], row[j + r] = row[j + r], row[j]
        return tuple(sorted(row[:k])) if word == "subset" else tuple(row)
    if word == "weights":
        left, taken = dict(enumerate(more)), []
        for _ in range(recipe[2]):
            r, come = below(sum(left.values())), 0
            for index in sorted(left):
                come += left[index]
                if come > r:
                    break
            taken.append(index)
            del left[index]
        return tuple(taken)
    if word == "number":
        return pick_of(more, below(many(more)))
    return tuple(plain_play(("subset" if kind == "choice" else "figures", n, k), below) for kind, n, k in more)


def all_courses(recipe, chances_of):
    """List the pairs (result, chance) of all courses; chances_of tells the chances of all numbers below a bound."""
    told, waiting = [], [()]

    class Asked(Exception):
        pass

    while waiting:
        given = waiting.pop()
        bounds = []

        def below(n):
            bounds.append(n)
            if len(bounds) > len(given):
                raise Asked(n)
            return given[len(bounds) - 1]

        try:
            result = plain_play(recipe, below)
        except Asked:
            waiting.extend(given + (number,) for number in range(bounds[-1]))
            continue
        chance = Fraction(1)
        for bound, number in zip(bounds, given):
            chance *= chances_of(bound)[number]
        told.append((result, chance, bounds))
    return told
