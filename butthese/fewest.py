"""The fewest plain forms that say the same as a list."""

from butthese.diagrams import NONE, WHOLE, Diagram, Heads, row_of
from butthese.rests import check_plain, fitted_set


class Covers:
    """The rows that fit only trees that a list of plain forms fits, and how few of them fit all of these.

    There is always a list of fewest rows that are widest ones: such as can't do without any of their heads.
    """

    def __init__(self, world, forms):
        self._heads = Heads(world)
        self._diagram = Diagram(world)
        self.whole = fitted_set(self._diagram, forms)
        self._places = sorted({place for form in forms for place in row_of(form)})
        # For a set how many rows are known to be too few for it.
        self._too_few = {}

    def rows(self, number, most):
        """At most so many rows that fit all trees of a set and none outside of the whole, or None."""
        if number == NONE:
            return []
        if most <= self._too_few.get(number, 0):
            return None
        # Some row must fit the tree that is picked, and it may as well be a widest one.
        for row in self._widest(self._row_in(number)):
            others = self.rows(self._diagram.less(number, self._diagram.set_of(row)), most - 1)
            if others is not None:
                return [row, *others]
        self._too_few[number] = most
        return None

    def form_of(self, row):
        """A plain form that fits the trees that a row fits."""
        return self._heads.forms_of({place: [row[place]] for place in row})[0]

    def _row_in(self, number):
        """The heads of some tree of a set at all places that the forms ask for."""
        row = {}
        for place in self._places:
            if place == WHOLE or place in self._heads.places_below(row.get(place[:-1]), place[:-1]):
                ways = {head: self._diagram.behind(number, place, head) for head in self._heads.told()}
                row[place] = [head for head in ways if ways[head] != NONE][0]
                number = ways[row[place]]
        return row

    def _widest(self, row):
        """All widest rows that have no other heads than a row."""
        found = []
        narrowing = [{}]
        while narrowing:
            narrower = {}
            for told in narrowing:
                if self._diagram.less(self._diagram.set_of(told), self.whole) == NONE:
                    found.append(told)
                else:
                    for place in next_places(told, row):
                        more = {**told, place: row[place]}
                        narrower[" ".join(sorted(more))] = more
            narrowing = [more for more in narrower.values() if not any([lies_in(one, more) for one in found])]
        return found


def next_places(told, row):
    """The places of a row of which a part is told where one head more may be told."""
    return [place for place in row if place not in told and (place == WHOLE or place[:-1] in told)]


def lies_in(first, second):
    """Whether the second of two rows that share their heads has all places of the first one."""
    return all([place in second for place in first])


def fewest(world, forms):
    """A list of as few plain forms as possible that is the same as a list."""
    check_plain(world, forms)
    covers = Covers(world, forms)
    most = 0
    rows = covers.rows(covers.whole, most)
    while rows is None:
        most += 1
        rows = covers.rows(covers.whole, most)
    return [covers.form_of(row) for row in rows]
