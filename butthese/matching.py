"""Fitting a form to a tree, and making a tree of a form."""

from butthese.errors import BadForm, BadTree, BadValues
from butthese.worlds import is_name, nodes_of


def same_tree(first, second):
    """Whether two trees of one world are the same; they may be deeper than == can go."""
    waiting = [(first, second)]
    while waiting:
        one, other = waiting.pop()
        if one[0] != other[0]:
            return False
        if one[0] != "*":
            waiting.extend(list(zip(one[1:], other[1:])))
        elif one[1] != other[1]:
            return False
    return True


def fit(world, form, tree):
    """The dict from the letters of a form to trees by which it fits a tree, or None."""
    if not world.is_form(form):
        raise BadForm(form)
    if not world.is_tree(tree):
        raise BadTree(tree)
    values = {}
    waiting = [(form, tree)]
    while waiting:
        part, below = waiting.pop()
        if isinstance(part, tuple):
            if part[0] != below[0]:
                return None
            waiting.extend(list(zip(part[:0:-1], below[:0:-1])))
        elif part != "_" and not same_tree(values.setdefault(part, below), below):
            return None
    return values


def is_bare(world, value):
    """Whether any value is a form of signs and letters alone."""
    if not world.is_form(value):
        return False
    return all([node != "_" and node[0] != "*" for node in nodes_of(value)])


def are_values(world, value):
    """Whether any value is a dict from names to trees."""
    if not isinstance(value, dict):
        return False
    return all([is_name(name) and world.is_tree(tree) for name, tree in value.items()])


def become(world, form, values):
    """The tree that a form becomes when the trees of a dict stand for its letters."""
    if not is_bare(world, form):
        raise BadForm(form)
    nodes = nodes_of(form)
    letters = [node for node in nodes if isinstance(node, str)]
    if not are_values(world, values) or not all([letter in values for letter in letters]):
        raise BadValues(values)
    made = []
    for node in reversed(nodes):
        if isinstance(node, str):
            made.append(values[node])
        else:
            many = len(node) - 1
            parts = made[len(made) - many:]
            del made[len(made) - many:]
            made.append((node[0], *parts[::-1]))
    return made[0]
