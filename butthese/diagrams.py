"""Sets of trees told by the signs at places, as the numbers of a diagram's nodes."""

WHOLE = 0
NONE = 0
ALL = 1


def are_apart(first, second):
    """Whether no tree fits both of two rows."""
    for place in first:
        if second.get(place, first[place]) != first[place]:
            return True
    return False


class Places:
    """The places in the forms and trees of a world, each with a number; WHOLE is all of a tree.

    A row is a dict from places to the signs that stand there: a plain form without its letters.
    A cell is a dict from places to lists of signs, any of which may stand there. Other places
    are free. In both of them a place comes behind those that it lies in.
    """

    def __init__(self, world):
        self._parts = dict(world.signs)
        if world.more:
            self._parts["*"] = 0
        self._numbers = {}

    def heads(self):
        """What may stand at a place: the signs, and "*" for further leaves."""
        return list(self._parts)

    def below(self, place, part):
        """The place of a part, counted from 0, of what stands at a place."""
        return self._numbers.setdefault((place, part), len(self._numbers) + 1)

    def row_of(self, form):
        """The row of a plain form."""
        row = {}
        waiting = [(WHOLE, form)]
        while waiting:
            place, node = waiting.pop()
            if isinstance(node, tuple):
                row[place] = node[0]
                parts = [(self.below(place, part), node[part + 1]) for part in range(len(node) - 1)]
                waiting.extend(parts[::-1])
        return row

    def forms_of(self, cell):
        """Plain forms, no two of which share a tree, that fit just the trees of a cell."""
        made = {}
        for place in reversed(list(cell)):
            made[place] = [form for sign in cell[place] for form in self._forms_with(sign, place, made)]
        return made.get(WHOLE, ["_"])

    def _forms_with(self, sign, place, made):
        """The forms with a sign at a place, of those that are made for the places below."""
        forms = [(sign,)]
        for part in range(self._parts[sign]):
            choices = made.get(self.below(place, part), ["_"])
            forms = [(*form, choice) for form in forms for choice in choices]
        return forms


class Diagram:
    """Sets of the trees that some rows fit, and of what is left of such sets without others.

    A set is the number of a node. NONE and ALL stand for themselves; any other node asks which
    head stands at a place and has the number to go on with for each head. Nodes ask for the
    places in one order, and no two nodes ask the same, so the same set has the same number:
    thousands of rows that a rest is told by share few nodes, where lists of them would not.
    """

    def __init__(self, places, rows):
        self._places = places
        self._heads = places.heads()
        self._order = places_by_use(rows)
        self._ranks = {place: rank for rank, place in enumerate(self._order)}
        self._nodes = [(len(self._order), []), (len(self._order), [])]
        self._numbers = {}
        self._left = {}

    def set_of(self, row):
        """The set of the trees that a row fits."""
        number = ALL
        for place in sorted(row, key=lambda at: self._ranks[at], reverse=True):
            ways = [number if head == row[place] else NONE for head in self._heads]
            number = self._number_of(self._ranks[place], ways)
        return number

    def less(self, first, second):
        """The set of the trees of the first set that are not in the second one."""
        waiting = [(first, second)]
        while waiting:
            pair = waiting.pop()
            if self._known(pair) is None:
                rank, pairs = self._pairs(pair)
                unknown = [other for other in pairs if self._known(other) is None]
                if unknown:
                    waiting.extend([pair, *unknown])
                else:
                    self._left[pair] = self._number_of(rank, [self._known(other) for other in pairs])
        return self._known((first, second))

    def forms_of(self, number):
        """Plain forms, no two of which share a tree, that fit just the trees of a set."""
        forms = []
        waiting = [({}, number)]
        while waiting:
            cell, number = waiting.pop()
            if number == ALL:
                forms.extend(self._places.forms_of(cell))
            elif number != NONE:
                waiting.extend(self._ways_on(cell, number))
        return forms

    def _ways_on(self, cell, number):
        """The cells that a cell falls into at a node, each with where it goes on, the last one first."""
        rank, ways = self._nodes[number]
        heads = {}
        for head, way in zip(self._heads, ways):
            heads.setdefault(way, []).append(head)
        place = self._order[rank]
        return [({**cell, place: heads[way]}, way) for way in reversed(list(heads))]

    def _number_of(self, rank, ways):
        """The number of the node that asks for a place and goes on in these ways."""
        if all([way == ways[0] for way in ways]):
            return ways[0]
        key = (rank, *ways)
        if key not in self._numbers:
            self._numbers[key] = len(self._nodes)
            self._nodes.append((rank, ways))
        return self._numbers[key]

    def _pairs(self, pair):
        """The rank of the first place that one of two sets asks for, and both sets for each head there."""
        first, second = pair
        rank = min(self._nodes[first][0], self._nodes[second][0])
        return rank, list(zip(self._ways(first, rank), self._ways(second, rank)))

    def _ways(self, number, rank):
        own_rank, ways = self._nodes[number]
        return ways if own_rank == rank else [number for _ in self._heads]

    def _known(self, pair):
        """What is left of the first of two sets without the second one, or None if that is not known yet."""
        first, second = pair
        if first == NONE or second == ALL or first == second:
            return NONE
        if second == NONE:
            return first
        return self._left.get(pair)


def places_by_use(rows):
    """The places of some rows, the most frequent ones first: asking for them early keeps forms few."""
    counts = {}
    for row in rows:
        for place in row:
            counts[place] = counts.get(place, 0) + 1
    return sorted(counts, key=lambda at: (-counts[at], at))
