"""Sayings: conditions of forms, and whether they hold."""

from butthese.errors import BadCondition, BadValues
from butthese.matching import are_values, fitted, is_bare, letters_in, same_tree, with_values

OPPOSITES = {"alike": "unlike", "unlike": "alike", "fits": "misses", "misses": "fits"}


def is_condition(world, value):
    """Whether any value is a condition."""
    if not isinstance(value, tuple) or len(value) != 3:
        return False
    word, form, other = value
    if not isinstance(word, str) or word not in OPPOSITES or not is_bare(world, form):
        return False
    return world.is_form(other) if has_pattern(value) else is_bare(world, other)


def has_pattern(condition):
    """Whether the last entry of a condition is a pattern, not a form."""
    return condition[0] in ("fits", "misses")


def check_saying(world, saying):
    """Raise the error of the first entry that is not a condition."""
    for position, condition in enumerate(saying):
        if not is_condition(world, condition):
            raise BadCondition(position)


def letters_of(saying):
    """The ascending list of the letters of a saying."""
    letters = []
    for condition in saying:
        forms = condition[1:2] if has_pattern(condition) else condition[1:]
        for form in forms:
            letters.extend(letters_in(form))
    return sorted(set(letters))


def condition_holds(condition, values):
    """Whether a condition holds for a dict that has its letters."""
    word, form, other = condition
    tree = with_values(form, values)
    if has_pattern(condition):
        met = fitted(other, tree) is not None
    else:
        met = same_tree(tree, with_values(other, values))
    return met == (word in ("alike", "fits"))


def holds(world, saying, values):
    """Whether a saying holds for a dict from its letters to trees."""
    check_saying(world, saying)
    if not are_values(world, values) or not all([letter in values for letter in letters_of(saying)]):
        raise BadValues(values)
    return all([condition_holds(condition, values) for condition in saying])


def against(condition):
    """The condition that holds just where this one does not."""
    word, form, other = condition
    return (OPPOSITES[word], form, other)
