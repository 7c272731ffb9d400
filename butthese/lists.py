"""What lists of forms miss, which forms of them are reached, and where two lists differ."""

from butthese.diagrams import ALL, NONE, Diagram, row_of
from butthese.rests import check_forms
from butthese.search import Search
from butthese.terms import Terms


class Missed:
    """The trees that a list of forms misses, form by form: a set of a diagram and the forms that are not plain."""

    def __init__(self, world, diagram):
        self._world = world
        self._diagram = diagram
        self._left = ALL
        self._others = []

    def put(self, form):
        """Put a form behind the others."""
        if self._world.is_plain(form):
            self._left = self._diagram.less(self._left, self._diagram.set_of(row_of(form)))
        else:
            self._others.append(form)

    def tree_with(self, form):
        """A missed tree that a form fits, or None."""
        return self._tree_in(self._diagram.both(self._left, self._diagram.set_of(row_of(form))), form)

    def tree_off(self, other):
        """A missed tree that the plain forms of another list fit, or None."""
        return self._tree_in(self._diagram.less(self._left, other._left), "_")

    def others(self):
        """The forms that are not plain."""
        return list(self._others)

    def _tree_in(self, number, form):
        """A tree of a set that a form fits and no form that is not plain does, or None."""
        if number == NONE:
            return None
        terms = Terms()
        whole = terms.term_of(form, {})
        rules = [(whole, terms.term_of(other, {})) for other in self._others]
        trees = Search(self._world, [whole], self._diagram).found(terms, rules, number)
        return None if trees is None else trees[0]


def missed_by(world, diagram, forms):
    """What a list of forms misses."""
    told = Missed(world, diagram)
    for form in forms:
        told.put(form)
    return told


def missed(world, forms):
    """A tree that a list misses, or None."""
    check_forms(world, forms)
    return missed_by(world, Diagram(world), forms).tree_with("_")


def trees_reaching(world, diagram, forms):
    """For each form a tree that it fits and none of the forms ahead of it, or None."""
    ahead = Missed(world, diagram)
    trees = []
    for form in forms:
        trees.append(ahead.tree_with(form))
        ahead.put(form)
    return trees


def reached(world, forms):
    """For each form of a list a tree by which it is reached, or None."""
    check_forms(world, forms)
    return trees_reaching(world, Diagram(world), forms)


def tree_between(fitting, missing):
    """A tree that one list fits and another one misses, or None; of both of them is told what they miss."""
    tree = missing.tree_off(fitting)
    if tree is not None:
        return tree
    for form in fitting.others():
        tree = missing.tree_with(form)
        if tree is not None:
            return tree
    return None


def unlike_tree(world, first, second):
    """A tree that one of two lists fits and the other one misses, or None if they are the same."""
    check_forms(world, first)
    check_forms(world, second)
    diagram = Diagram(world)
    one = missed_by(world, diagram, first)
    other = missed_by(world, diagram, second)
    tree = tree_between(one, other)
    return tree_between(other, one) if tree is None else tree


def same(world, first, second):
    """Whether two lists are the same."""
    return unlike_tree(world, first, second) is None
