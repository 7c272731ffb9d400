"""Listings: lists of forms that are led form by form."""

from butthese.diagrams import Diagram
from butthese.errors import BadForm, BadTree, NotThere, TooFar
from butthese.lists import missed_by, trees_reaching
from butthese.matching import fitted
from butthese.texts import form_text
from butthese.worlds import is_integer


class Listing:
    """A list of forms, at first without any, with the calls that changed it, to be taken back."""

    def __init__(self, world):
        self._world = world
        self._diagram = Diagram(world)
        self._missed = missed_by(world, self._diagram, [])
        self._forms = []
        # For each call the position of its form, and the form if it was taken out, else None.
        self._calls = []

    def __eq__(self, other):
        # Forms may be deeper than == can go.
        return isinstance(other, Listing) and self._world == other._world and self._texts() == other._texts()

    @property
    def world(self):
        """The world of the listing."""
        return self._world

    @property
    def forms(self):
        """The list of the forms."""
        return list(self._forms)

    @property
    def many(self):
        """The number of the forms."""
        return len(self._forms)

    def put(self, form):
        """Put a form behind the others; a tree by which it is reached, or None."""
        if not self._world.is_form(form):
            raise BadForm(form)
        tree = self._missed.tree_with(form)
        self._missed.put(form)
        self._calls.append((len(self._forms), None))
        self._forms.append(form)
        return tree

    def drop(self, position):
        """Take out the form at a position."""
        if not is_integer(position) or not 0 <= position < len(self._forms):
            raise NotThere(position)
        self._calls.append((position, self._forms.pop(position)))
        self._look_anew()

    def gap(self):
        """A tree that the list misses, or None."""
        return self._missed.tree_with("_")

    def dead(self):
        """The ascending list of the positions of the forms that are never reached."""
        trees = trees_reaching(self._world, self._diagram, self._forms)
        return [position for position, tree in enumerate(trees) if tree is None]

    def which(self, tree):
        """The position of the first form that fits a tree, or None."""
        if not self._world.is_tree(tree):
            raise BadTree(tree)
        for position, form in enumerate(self._forms):
            if fitted(form, tree) is not None:
                return position
        return None

    def undo(self, number):
        """Take back the last calls of put and drop, so many of them."""
        if number > len(self._calls):
            raise TooFar(len(self._calls))
        for _ in range(number):
            position, form = self._calls.pop()
            if form is None:
                del self._forms[position]
            else:
                self._forms.insert(position, form)
        self._look_anew()

    def fork(self):
        """A new equal listing with the same calls to take back."""
        listing = Listing(self._world)
        listing._forms = list(self._forms)
        listing._calls = list(self._calls)
        listing._look_anew()
        return listing

    def _texts(self):
        """The texts of the forms."""
        return [form_text(form) for form in self._forms]

    def _look_anew(self):
        """Tell what the list misses, behind a change that was not just a form put behind the others."""
        self._missed = missed_by(self._world, self._diagram, self._forms)
