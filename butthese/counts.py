"""How many trees of a size a list of plain forms fits, and which of them has which number in their order."""

from butthese.diagrams import ALL, NONE, WHOLE, Diagram, below
from butthese.errors import HasMore, NotThere
from butthese.rests import check_plain, fitted_set
from butthese.worlds import MOST_PARTS, nodes_of, sizes_of

GREATEST = 200


class Forests:
    """In how many ways so many trees in a row can have so many signs in all."""

    def __init__(self, world):
        parts = [number for _, number in world.signs]
        # How many signs have so many parts, from 0 on.
        self._signs = [len([number for number in parts if number == many]) for many in range(MOST_PARTS + 1)]
        self._rows = [[1]]

    def told(self, trees, size):
        """How many rows of so many trees have a size in all."""
        if trees > size:
            return 0
        while len(self._rows) <= size:
            self._rows.append(self._next_row())
        return self._rows[size][trees]

    def _next_row(self):
        """The numbers for the next size: without the first sign, its parts stand ahead of the trees behind."""
        none, one, two, three = self._signs
        before = [*self._rows[-1], 0, 0, 0]
        return [0, *[none * first + one * second + two * third + three * fourth
                     for first, second, third, fourth in zip(before, before[1:], before[2:], before[3:])]]


class Fitted:
    """The trees of at most a size that a list of plain forms fits: a set of a diagram, to be counted."""

    def __init__(self, world, forms, greatest):
        self.signs_told = world.signs
        self._greatest = greatest
        self._diagram = Diagram(world)
        self.whole = fitted_set(self._diagram, forms)
        self._forests = Forests(world)
        self._ends = {}

    def has(self, tree):
        """Whether a tree is one of these."""
        return self._diagram.has(self.whole, tree)

    def of_size(self, size):
        """How many trees of a size there are."""
        return self.ways(self.whole, WHOLE, 1, size, {ALL: 1})

    def behind(self, number, place, sign):
        """What is left of a set if a sign stands at the next place."""
        return self._diagram.behind(number, place, sign)

    def ways(self, number, place, many, size, weights):
        """In how many ways the last parts of a place, so many of them, can have a size in all.

        The number is that of the set that is left ahead of them. Weights is a dict from the sets that may be
        left behind them: what each way counts that leaves one of these.
        """
        total = 0
        ends = self.ends(number, place, many)
        for end in ends:
            if end in weights:
                for (signs, free), paths in ends[end].items():
                    total += paths * self._forests.told(free, size - signs) * weights[end]
        return total

    def ends(self, number, place, many):
        """A dict from the sets that may be left behind the last parts of a place to the paths that lead there.

        The paths are a dict: from how many signs they ask for and how many trees they leave free to their number.
        """
        key = (number, place, many)
        if key not in self._ends:
            self._ends[key] = self._followed(number, place, many)
        return self._ends[key]

    def _followed(self, number, place, many):
        ends = {}
        met = {number: {(0, many): 1}}
        while met:
            # Nodes go on with lesser numbers, so that all paths to the greatest one are known.
            number = max(met)
            told = met.pop(number)
            if number > ALL and self._diagram.place_asked(number).startswith(place):
                for sign, parts in self.signs_told:
                    self._add_paths(met.setdefault(self._diagram.way(number, sign), {}), told, parts)
            elif number != NONE:
                ends[number] = told
        return ends

    def _add_paths(self, known, told, parts):
        """Add to known paths those that are told, with one more sign that has so many parts."""
        for (signs, free), paths in told.items():
            if signs + free + parts <= self._greatest:
                pair = (signs + 1, free - 1 + parts)
                known[pair] = known.get(pair, 0) + paths


class Walk:
    """A walk through a tree of some size from its front to its end: of each node first its size is told, then its sign.

    What is open are rows of places, the next one last: with the place that they are parts of, their size
    in all, and weights, which say for each set that may be left behind them in how many ways the rest can be filled.
    """

    def __init__(self, fitted, size):
        self._fitted = fitted
        self._number = fitted.whole
        self._rows = [([WHOLE], WHOLE, size, {ALL: 1})]
        self._node = None

    def is_open(self):
        """Whether there is a next node."""
        return len(self._rows) > 0

    def next_sizes(self):
        """The sizes that the next node may have, the ascending list, each with the number of trees."""
        places, _, size, _ = self._rows[-1]
        least = size if len(places) == 1 else 1
        sizes = range(least, size - len(places) + 2)
        return [(own, self._fitted.ways(self._number, places[0], 1, own, self._weights(own))) for own in sizes]

    def take_size(self, own):
        """Tell the size of the next node."""
        inner = self._weights(own)
        places, around, size, weights = self._rows.pop()
        if len(places) > 1:
            self._rows.append((places[1:], around, size - own, weights))
        self._node = (places[0], own, inner)

    def next_signs(self):
        """The signs that the next node may have, in their sequence, each with the number of trees."""
        place, size, weights = self._node
        told = []
        for sign, many in self._fitted.signs_told:
            left = self._fitted.behind(self._number, place, sign)
            told.append((sign, self._fitted.ways(left, place, many, size - 1, weights)))
        return told

    def take_sign(self, sign):
        """Tell the sign of the next node."""
        place, size, weights = self._node
        self._number = self._fitted.behind(self._number, place, sign)
        parts = [below(place, part) for part in range(dict(self._fitted.signs_told)[sign])]
        if parts:
            self._rows.append((parts, place, size - 1, weights))

    def _weights(self, own):
        """The weights behind the next node if it has a size."""
        places, around, size, weights = self._rows[-1]
        ends = self._fitted.ends(self._number, places[0], 1)
        return {end: self._fitted.ways(end, around, len(places) - 1, size - own, weights) for end in ends}


def chosen(options, number):
    """The one of some options, each with how many it has, to which a number falls; and the number among its own."""
    for option, many in options:
        if number < many:
            break
        number -= many
    return option, number


def ahead(options, option):
    """How many the options ahead of one have."""
    total = 0
    for other, many in options:
        if other == option:
            break
        total += many
    return total


def check_countable(world, forms):
    """Raise the error of a world that has more, then those of a list of plain forms."""
    if world.more:
        raise HasMore(world)
    check_plain(world, forms)


def count(world, forms, size):
    """How many trees of a size a list fits."""
    check_countable(world, forms)
    return Fitted(world, forms, size).of_size(size)


def tree_at(world, forms, number):
    """The tree with a number among those that a list fits, in their order, or None if there are not so many."""
    check_countable(world, forms)
    fitted = Fitted(world, forms, GREATEST)
    for size in range(1, GREATEST + 1):
        many = fitted.of_size(size)
        if number < many:
            return tree_of_size(world, Walk(fitted, size), number)
        number -= many
    return None


def tree_of_size(world, walk, number):
    """The tree with a number among those of a walk."""
    signs = []
    while walk.is_open():
        size, number = chosen(walk.next_sizes(), number)
        walk.take_size(size)
        sign, number = chosen(walk.next_signs(), number)
        walk.take_sign(sign)
        signs.append(sign)
    parts = dict(world.signs)
    made = []
    for sign in reversed(signs):
        made.append((sign, *[made.pop() for _ in range(parts[sign])]))
    return made[0]


def place_of(world, forms, tree):
    """The number of a tree among those that a list fits, in their order."""
    check_countable(world, forms)
    if not world.is_tree(tree):
        raise NotThere(tree)
    sizes = sizes_of(tree)
    fitted = Fitted(world, forms, sizes[0])
    if not fitted.has(tree):
        raise NotThere(tree)
    number = sum([fitted.of_size(size) for size in range(1, sizes[0])])
    walk = Walk(fitted, sizes[0])
    for node, size in zip(nodes_of(tree), sizes):
        number += ahead(walk.next_sizes(), size)
        walk.take_size(size)
        number += ahead(walk.next_signs(), node[0])
        walk.take_sign(node[0])
    return number
