"""Circles for the tests, carried out coin by coin."""

from fractions import Fraction

from lotshown.circles import is_course
from tests.test_dealt import plain_owners

NAMES = ("ann", "bob", "cid", "dan")


def any_entry(chance, most=30):
    word = chance.choice(("join", "join", "leave", "give", "buy", "buy", "win", "win"))
    if word == "join":
        return (word, chance.choice(NAMES), chance.randint(1, 9))
    if word == "leave":
        return (word, chance.choice(NAMES))
    if word == "give":
        giver, taker = chance.sample(NAMES, 2)
        return (word, giver, taker, chance.randint(1, 9))
    if word == "buy":
        return (word, chance.randint(1, most))
    return (word, chance.randint(0, 3), chance.randint(1, most))


def any_course(chance, rule, many):
    """Return a course in which each entry was taken that is possible."""
    course = []
    for _ in range(many):
        entry = any_entry(chance)
        if is_course(rule, course + [entry]):
            course.append(entry)
    return course


def follow(rule, course):
    """Return what each member was dealt, coin by coin, and what exactly; both of wins less purchases."""
    numbers, spell = {}, 0
    dealt, exact = {}, {}
    given = {}
    spells = [()]
    purchases = []

    def deal(spell, kind, money, sign):
        parts = spells[spell]
        before = given.get((spell, kind), 0)
        given[(spell, kind)] = before + money
        whole = sum(number for _, number in parts)
        for owner in plain_owners(parts, before + money)[before:]:
            dealt[owner] += sign
        for member, number in parts:
            exact[member] += Fraction(sign * money * number, whole)

    for entry in course:
        if entry[0] == "buy":
            purchases.append(spell)
            deal(spell, "buy", entry[1], -1)
        elif entry[0] == "win":
            deal(purchases[entry[1]] if rule == "held" else spell, "win", entry[2], 1)
        else:
            if entry[0] == "join":
                numbers[entry[1]] = entry[2]
            elif entry[0] == "leave":
                del numbers[entry[1]]
            else:
                _, giver, taker, many = entry
                numbers[giver] -= many
                numbers[taker] = numbers.get(taker, 0) + many
                if numbers[giver] == 0:
                    del numbers[giver]
            spells.append(tuple(sorted(numbers.items())))
            spell = len(spells) - 1
            for member in numbers:
                dealt.setdefault(member, 0)
                exact.setdefault(member, Fraction(0))
    return dealt, exact
