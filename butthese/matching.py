"""Fitting a form to a tree, and making a tree of a form."""

from butthese.errors import BadForm, BadTree, BadValues
from butthese.worlds import built, is_name, nodes_of


def same_tree(first, second):
    """Whether two trees of one world are the same; they may be deeper than == can go."""
    waiting = [(first, second)]
    while waiting:
        one, other = waiting.pop()
        if one[0] != other[0]:
            return False
        if one[0] != "*":
            waiting.extend(list(zip(one[1:], other[1:])))
        elif one[1] != other[1]:
            return False
    return True


def fitted(form, tree):
    """The dict from the letters of a form to trees by which it fits a tree of the same world, or None."""
    values = {}
    waiting = [(form, tree)]
    while waiting:
        part, below = waiting.pop()
        if isinstance(part, tuple):
            if part[0] != below[0]:
                return None
            waiting.extend(list(zip(part[:0:-1], below[:0:-1])))
        elif part != "_" and not same_tree(values.setdefault(part, below), below):
            return None
    return values


def fit(world, form, tree):
    """The dict from the letters of a form to trees by which it fits a tree, or None."""
    if not world.is_form(form):
        raise BadForm(form)
    if not world.is_tree(tree):
        raise BadTree(tree)
    return fitted(form, tree)


def is_bare(world, value):
    """Whether any value is a form of signs and letters alone."""
    if not world.is_form(value):
        return False
    return all([node != "_" and node[0] != "*" for node in nodes_of(value)])


def are_values(world, value):
    """Whether any value is a dict from names to trees."""
    if not isinstance(value, dict):
        return False
    return all([is_name(name) and world.is_tree(tree) for name, tree in value.items()])


def letters_in(form):
    """The letters of a form of signs and letters alone, from the front, as often as they stand in it."""
    return [node for node in nodes_of(form) if isinstance(node, str)]


def with_values(form, values):
    """The tree that a form of signs and letters becomes with the trees of a dict that has its letters."""
    return built(form, lambda letter: values[letter], lambda sign, parts: (sign, *parts))


def become(world, form, values):
    """The tree that a form becomes when the trees of a dict stand for its letters."""
    if not is_bare(world, form):
        raise BadForm(form)
    if not are_values(world, values) or not all([letter in values for letter in letters_in(form)]):
        raise BadValues(values)
    return with_values(form, values)
