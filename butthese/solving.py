"""Solving sayings: trees for which they hold, what follows from them, and which say the same."""

from butthese.diagrams import ALL, Diagram
from butthese.errors import BadCondition
from butthese.sayings import against, check_saying, has_pattern, is_condition
from butthese.search import Search
from butthese.terms import Terms


def solution(world, saying):
    """A dict from the letters of a saying to trees for which it holds, or None."""
    terms = Terms()
    letters = {}
    ties = []
    rules = []
    for condition in saying:
        word, form, other = condition
        first = terms.term_of(form, letters)
        second = terms.term_of(other, {} if has_pattern(condition) else letters)
        pairs = ties if word in ("alike", "fits") else rules
        pairs.append((first, second))
    for first, second in ties:
        terms = terms.tied(first, second)
        if terms is None:
            return None
    names = sorted(letters)
    trees = Search(world, [letters[name] for name in names], Diagram(world)).found(terms, rules, ALL)
    return None if trees is None else dict(zip(names, trees))


def answer(world, saying):
    """A dict from the letters of a saying to trees for which it holds, or None if it can't hold."""
    check_saying(world, saying)
    return solution(world, saying)


def is_implied(world, saying, condition):
    """Whether a condition holds wherever a saying does."""
    return solution(world, [*saying, against(condition)]) is None


def follows(world, saying, condition):
    """Whether a condition follows from a saying."""
    check_saying(world, saying)
    if not is_condition(world, condition):
        raise BadCondition(0)
    return is_implied(world, saying, condition)


def say_same(world, first, second):
    """Whether two sayings say the same."""
    check_saying(world, first)
    check_saying(world, second)
    both = [(first, condition) for condition in second] + [(second, condition) for condition in first]
    return all([is_implied(world, saying, condition) for saying, condition in both])
