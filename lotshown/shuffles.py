"""Recipes, and what draws give on rows of digits (points 115 and 116)."""

from lotshown.games import is_game, many
from lotshown.names import is_number
from lotshown.picks import is_bound, is_manner, read_below
from lotshown.ranks import pick_of
from lotshown.streams import check_base, first_digits

_MOST_FIGURES = 12
_MOST_SUBSET = 100
_MOST_ORDER = 12
_MOST_WEIGHTS = 12
_MOST_WEIGHT = 1000


def is_recipe(value):
    """Tell whether the value, of any kind, is a recipe."""
    if not isinstance(value, tuple) or len(value) not in (2, 3):
        return False
    word, more = value[0], value[1]
    if len(value) == 2:
        return (word == "below" and is_bound(more) or word == "order" and is_number(more, 1, _MOST_ORDER)
                or word in ("game", "number") and is_game(more))
    k = value[2]
    if word == "figures":
        return is_bound(more) and is_number(k, 1, _MOST_FIGURES)
    if word == "subset":
        return is_number(more, 1, _MOST_SUBSET) and is_number(k, 1, min(more, _MOST_FIGURES))
    return word == "weights" and _are_weights(more) and is_number(k, 1, positives(more))


def _are_weights(value):
    if not isinstance(value, tuple) or not 1 <= len(value) <= _MOST_WEIGHTS:
        return False
    return all(is_number(weight, 0, _MOST_WEIGHT) for weight in value)


def positives(weights):
    """Return the number of the weights greater than 0."""
    return len([weight for weight in weights if weight > 0])


def is_draw(value):
    """Tell whether the value, of any kind, is a draw."""
    if not isinstance(value, tuple) or len(value) != 3:
        return False
    recipe, manner, base = value
    return is_recipe(recipe) and is_manner(manner) and is_number(base, 2, 256)


def bounds_of(recipe):
    """List the bounds below which a recipe that is not by weights draws, one behind the other."""
    word, more = recipe[0], recipe[1]
    if word == "below":
        return [more]
    if word == "figures":
        return [more] * recipe[2]
    if word == "subset":
        return [more - j for j in range(recipe[2])]
    if word == "order":
        return [more - j for j in range(more)]
    if word == "number":
        return [many(more)]
    return [bound for field in more for bound in bounds_of(_recipe_of(field))]


def _recipe_of(field):
    """Return the recipe by which the part of a field is drawn."""
    kind, n, k = field
    return ("subset" if kind == "choice" else "figures", n, k)


def result_of(recipe, numbers):
    """Return the result of a recipe that is not by weights when these numbers were drawn."""
    word, more = recipe[0], recipe[1]
    if word == "below":
        return numbers[0]
    if word == "figures":
        return tuple(numbers)
    if word == "subset":
        return tuple(sorted(_exchanged(more, numbers)))
    if word == "order":
        return _exchanged(more, numbers)
    if word == "number":
        return pick_of(more, numbers[0])
    parts = []
    at = 0
    for field in more:
        behind = at + field[2]
        parts.append(result_of(_recipe_of(field), numbers[at:behind]))
        at = behind
    return tuple(parts)


def _exchanged(n, numbers):
    """Return the first items, as many as the numbers, when the integers 1 to n were exchanged by them."""
    items = list(range(1, n + 1))
    for j, r in enumerate(numbers):
        items[j], items[j + r] = items[j + r], items[j]
    return tuple(items[:len(numbers)])


def play(draw, row):
    """Return what the draw gives on a row, and the number of the digits read."""
    recipe, manner, base = draw
    if recipe[0] == "weights":
        return _play_weights(draw, row)
    numbers = []
    at = 0
    for bound in bounds_of(recipe):
        number, at = read_below(bound, manner, base, row, at)
        numbers.append(number)
    return (result_of(recipe, numbers), at)


def _play_weights(draw, row):
    recipe, manner, base = draw
    left = list(recipe[1])
    taken = []
    at = 0
    for _ in range(recipe[2]):
        number, at = read_below(sum(left), manner, base, row, at)
        index = _index_at(left, number)
        left[index] = 0
        taken.append(index)
    return (tuple(taken), at)


def _index_at(weights, number):
    """Return the first index up to which the weights come to more than the number."""
    index = 0
    while number >= weights[index]:
        number -= weights[index]
        index += 1
    return index


def play_seed(recipe, manner, base, seed):
    """Return what the draw gives on the digits of the stream of a seed."""
    check_base(base)
    draw = (recipe, manner, base)
    return play(draw, first_digits(seed, base, most_read(draw)))[0]


def most_read(draw):
    """Return the most digits that the draw can read."""
    recipe, manner, _ = draw
    return manner[1] * manner[2] * _most_drawings(recipe)


def _most_drawings(recipe):
    """Return the most drawings below a number greater than 1 that a course can have."""
    if recipe[0] == "weights":
        # Only the last weight of all, if it is 1, is drawn below 1; the greatest one can be the last.
        alone = recipe[2] == positives(recipe[1]) and max(recipe[1]) == 1
        return recipe[2] - 1 if alone else recipe[2]
    return len([bound for bound in bounds_of(recipe) if bound > 1])
