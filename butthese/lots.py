"""Lots: the trees that lists of plain forms fit, and what comes of them."""

from butthese.diagrams import ALL, NONE, Diagram
from butthese.rests import check_plain, fitted_set


class Lot:
    """The lot of the trees that a list of plain forms fits."""

    def __init__(self, world, forms):
        check_plain(world, forms)
        self._world = world
        self._diagram = Diagram(world)
        self._number = fitted_set(self._diagram, forms)

    def __eq__(self, other):
        return isinstance(other, Lot) and self._world == other._world and self.forms == other.forms

    @property
    def world(self):
        """The world of the lot."""
        return self._world

    @property
    def forms(self):
        """A list of plain forms, no two of which share a tree, that fits just the trees of the lot."""
        return self._diagram.forms_of(self._number)

    def has(self, tree):
        """Whether any value is a tree of the lot."""
        return self._world.is_tree(tree) and self._diagram.has(self._number, tree)

    def joined(self, other):
        """The lot of the trees that are in one of two lots."""
        return self.others().less(other).others()

    def both(self, other):
        """The lot of the trees that are in both of two lots."""
        return self.less(other.others())

    def less(self, other):
        """The lot of the trees that are in this one but not in the other one."""
        diagram, mine, theirs = side_by_side(self, other)
        return lot_of(self._world, diagram, diagram.less(mine, theirs))

    def others(self):
        """The lot of the trees that are not in this one."""
        diagram = Diagram(self._world)
        mine = diagram.taken(self._diagram, self._number)
        return lot_of(self._world, diagram, diagram.less(ALL, mine))

    def same_as(self, other):
        """Whether two lots of the same world have the same trees."""
        _, mine, theirs = side_by_side(self, other)
        return mine == theirs

    def is_empty(self):
        """Whether the lot has no tree."""
        return self._number == NONE

    def within(self, other):
        """Whether all trees of this lot are in another one."""
        return self.less(other).is_empty()


def side_by_side(first, second):
    """A new diagram, and the numbers that the trees of two lots of one world have in it."""
    diagram = Diagram(first._world)
    mine = diagram.taken(first._diagram, first._number)
    return diagram, mine, diagram.taken(second._diagram, second._number)


def lot_of(world, diagram, number):
    """The lot of the trees of a set."""
    lot = Lot(world, [])
    lot._diagram = diagram
    lot._number = number
    return lot
