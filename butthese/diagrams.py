"""Sets of trees told by the signs at places, as the numbers of a diagram's nodes.

A place is a string of digits: the way to it from the whole tree, WHOLE, by the numbers of the parts,
counted from 0. So in the order of strings it stands behind those that it lies in.

A row is a dict from places to the signs that stand there: a plain form without its letters. A cell is
a dict from places to lists of signs, any of which may stand there. Other places are free.
"""

WHOLE = ""
NONE = 0
ALL = 1
# What NONE and ALL have for a place: it stands behind all places.
LAST = "~"


def row_of(form):
    """The row of a form as if no letter stood twice in it."""
    row = {}
    waiting = [(WHOLE, form)]
    while waiting:
        place, node = waiting.pop()
        if isinstance(node, tuple):
            row[place] = node[0]
            waiting.extend([(below(place, part), node[part + 1]) for part in range(len(node) - 1)])
    return row


def below(place, part):
    """The place of a part, counted from 0, of what stands at a place."""
    return place + str(part)


def are_apart(first, second):
    """Whether no tree fits both of two rows."""
    for place in first:
        if second.get(place, first[place]) != first[place]:
            return True
    return False


class Heads:
    """What may stand at a place in a world: its signs, and "*" for a further leaf."""

    def __init__(self, world):
        self._many = dict(world.signs)
        if world.more:
            self._many["*"] = 0

    def told(self):
        """The list of the heads."""
        return list(self._many)

    def places_below(self, head, place):
        """The places of the parts of a head that stands at a place; none of None."""
        return [below(place, part) for part in range(self._many.get(head, 0))]

    def forms_of(self, cell):
        """Plain forms, no two of which share a tree, that fit just the trees of a cell."""
        made = {}
        for place in sorted(cell, reverse=True):
            made[place] = [form for head in cell[place] for form in self._forms_with(head, place, made)]
        return made.get(WHOLE, ["_"])

    def _forms_with(self, head, place, made):
        """The forms with a head at a place, of those that are made for the places below."""
        forms = [(head,)]
        for part_place in self.places_below(head, place):
            choices = made.get(part_place, ["_"])
            forms = [(*form, choice) for form in forms for choice in choices]
        return forms


class Diagram:
    """Sets of trees, each the number of a node.

    NONE and ALL stand for themselves; any other node asks which head stands at a place and has the
    number to go on with for each head. Nodes ask for the places in the order of strings, and no two
    nodes ask the same, so the same set has the same number: thousands of rows that a rest is told by
    share few nodes, where lists of them would not. The nodes that a node goes on with have lesser numbers.
    """

    def __init__(self, world):
        self._cells = Heads(world)
        self._heads = self._cells.told()
        self._nodes = [(LAST, []), (LAST, [])]
        self._numbers = {}
        self._left = {}

    def set_of(self, row):
        """The set of the trees that a row fits."""
        number = ALL
        for place in sorted(row, reverse=True):
            number = self._number_of(place, [number if head == row[place] else NONE for head in self._heads])
        return number

    def taken(self, other, number):
        """The set that has a number in another diagram of the same world."""
        mine = {NONE: NONE, ALL: ALL}
        for known in other.numbers_below(number):
            place, ways = other.node(known)
            mine[known] = self._number_of(place, [mine[way] for way in ways])
        return mine[number]

    def numbers_below(self, number):
        """The numbers of a node and of all that it goes on with, but for NONE and ALL, the ascending list."""
        found = {}
        waiting = [number]
        while waiting:
            number = waiting.pop()
            if number > ALL and number not in found:
                found[number] = True
                waiting.extend(self._nodes[number][1])
        return sorted(found)

    def node(self, number):
        """The place that a node asks for, and where it goes on for each head."""
        place, ways = self._nodes[number]
        return place, list(ways)

    def place_asked(self, number):
        """The place that a node asks for."""
        return self._nodes[number][0]

    def way(self, number, head):
        """Where a node goes on if a head stands at its place."""
        return self._nodes[number][1][self._heads.index(head)]

    def behind(self, number, place, head):
        """What is left of a set, of which no sooner place is asked, if a head stands at a place."""
        return self.way(number, head) if self._nodes[number][0] == place else number

    def less(self, first, second):
        """The set of the trees of the first set that are not in the second one."""
        waiting = [(first, second)]
        while waiting:
            pair = waiting.pop()
            if self._known(pair) is None:
                place, pairs = self._pairs(pair)
                unknown = [other for other in pairs if self._known(other) is None]
                if unknown:
                    waiting.extend([pair, *unknown])
                else:
                    self._left[pair] = self._number_of(place, [self._known(other) for other in pairs])
        return self._known((first, second))

    def both(self, first, second):
        """The set of the trees that are in both of two sets."""
        return self.less(first, self.less(first, second))

    def has(self, number, tree):
        """Whether a tree is in a set."""
        while number > ALL:
            place, ways = self._nodes[number]
            number = ways[self._heads.index(part_at(tree, place)[0])]
        return number == ALL

    def forms_of(self, number):
        """Plain forms, no two of which share a tree, that fit just the trees of a set."""
        forms = []
        waiting = [({}, number)]
        while waiting:
            cell, number = waiting.pop()
            if number == ALL:
                forms.extend(self._cells.forms_of(cell))
            elif number != NONE:
                waiting.extend(self._ways_on(cell, number))
        return forms

    def _ways_on(self, cell, number):
        """The cells that a cell falls into at a node, each with where it goes on, the last one first."""
        place, ways = self._nodes[number]
        heads = {}
        for head, way in zip(self._heads, ways):
            heads.setdefault(way, []).append(head)
        return [({**cell, place: heads[way]}, way) for way in reversed(list(heads))]

    def _number_of(self, place, ways):
        """The number of the node that asks for a place and goes on in these ways."""
        if all([way == ways[0] for way in ways]):
            return ways[0]
        key = (place, *ways)
        if key not in self._numbers:
            self._numbers[key] = len(self._nodes)
            self._nodes.append((place, ways))
        return self._numbers[key]

    def _pairs(self, pair):
        """The first place that one of two sets asks for, and both sets for each head there."""
        first, second = pair
        place = min(self._nodes[first][0], self._nodes[second][0])
        return place, list(zip(self._ways(first, place), self._ways(second, place)))

    def _ways(self, number, place):
        """Where a set goes on for each head at a place that it asks for or leaves free."""
        own_place, ways = self._nodes[number]
        return ways if own_place == place else [number for _ in self._heads]

    def _known(self, pair):
        """What is left of the first of two sets without the second one, or None if that is not known yet."""
        first, second = pair
        if first == NONE or second == ALL or first == second:
            return NONE
        if second == NONE:
            return first
        return self._left.get(pair)


def part_at(tree, place):
    """The part of a tree at a place."""
    for digit in place:
        tree = tree[int(digit) + 1]
    return tree
