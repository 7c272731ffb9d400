"""Worlds: the signs that trees and forms are built of."""

from butthese.errors import BadSigns, BadTree

LETTERS = "abcdefghijklmnopqrstuvwxyz"
LONGEST_NAME = 8
MOST_SIGNS = 6
MOST_PARTS = 3


def is_integer(value):
    """Whether any value is an int that is not a bool."""
    return isinstance(value, int) and not isinstance(value, bool)


def is_name(value):
    """Whether any value is a string of 1 to 8 letters a to z."""
    if not isinstance(value, str) or not 1 <= len(value) <= LONGEST_NAME:
        return False
    return all([letter in LETTERS for letter in value])


def is_sign(value):
    """Whether any value is a tuple of a name and a number of parts."""
    if not isinstance(value, tuple) or len(value) != 2:
        return False
    name, number = value
    return is_name(name) and is_integer(number) and 0 <= number <= MOST_PARTS


def are_signs(value):
    """Whether any value is what a world can be made of."""
    if not isinstance(value, (list, tuple)) or not 1 <= len(value) <= MOST_SIGNS:
        return False
    if not all([is_sign(entry) for entry in value]):
        return False
    names = [name for name, _ in value]
    return len(set(names)) == len(names) and 0 in [number for _, number in value]


def nodes_of(value):
    """The signs, leaves, letters and "_" of a form or tree, from the front, each with what is below it."""
    # Trees may be deeper than Python lets calls be nested, so here and elsewhere a list stands in for calls.
    nodes = []
    waiting = [value]
    while waiting:
        node = waiting.pop()
        nodes.append(node)
        if isinstance(node, tuple) and node[0] != "*":
            waiting.extend(node[:0:-1])
    return nodes


def built(form, leaf, whole):
    """What is made of a form from the leaves up: leaf(text) of "_" and letters, whole(sign, parts) of all else."""
    made = []
    for node in reversed(nodes_of(form)):
        if isinstance(node, str):
            made.append(leaf(node))
        else:
            made.append(whole(node[0], [made.pop() for _ in node[1:]]))
    return made[0]


def sizes_of(tree):
    """The sizes of a tree and of all that lies in it, from the front."""
    sizes = []
    waiting = []
    for node in reversed(nodes_of(tree)):
        parts = [] if node[0] == "*" else [waiting.pop() for _ in node[1:]]
        waiting.append(1 + sum(parts))
        sizes.append(waiting[-1])
    return sizes[::-1]


class World:
    """Signs, each with a number of parts, and perhaps further leaves besides."""

    def __init__(self, signs, *, more=False):
        if not are_signs(signs):
            raise BadSigns(signs)
        self._signs = tuple(signs)
        self._more = bool(more)
        self._numbers = dict(self._signs)
        names = [name for name, _ in self._signs]
        self._ranks = {name: rank for rank, name in enumerate([*names, "*"])}

    def __eq__(self, other):
        return isinstance(other, World) and self._signs == other._signs and self._more == other._more

    @property
    def signs(self):
        """The tuple of the signs, each with its number of parts."""
        return self._signs

    @property
    def more(self):
        """Whether there are further leaves besides the signs."""
        return self._more

    @property
    def endless(self):
        """Whether there are trees without end."""
        return self._more or max([number for _, number in self._signs]) > 0

    def is_tree(self, value):
        """Whether any value is a tree."""
        waiting = [value]
        while waiting:
            node = waiting.pop()
            if self._has_sign(node):
                waiting.extend(node[1:])
            elif not self._is_further(node):
                return False
        return True

    def is_form(self, value):
        """Whether any value is a form."""
        waiting = [value]
        while waiting:
            node = waiting.pop()
            if self._has_sign(node):
                waiting.extend(node[1:])
            elif not self._is_open(node):
                return False
        return True

    def is_plain(self, value):
        """Whether any value is a form in which no letter stands twice."""
        if not self.is_form(value):
            return False
        letters = [node for node in nodes_of(value) if is_name(node)]
        return len(set(letters)) == len(letters)

    def size(self, tree):
        """How many signs and further leaves a tree has."""
        if not self.is_tree(tree):
            raise BadTree(tree)
        return len(nodes_of(tree))

    def before(self, first, second):
        """Whether the first tree stands before the second one."""
        for tree in (first, second):
            if not self.is_tree(tree):
                raise BadTree(tree)
        return self._order_of(first) < self._order_of(second)

    def _has_sign(self, value):
        """Whether any value is a tuple of a sign and as many values as it has parts."""
        if not isinstance(value, tuple) or len(value) == 0 or not isinstance(value[0], str):
            return False
        return self._numbers.get(value[0]) == len(value) - 1

    def _is_further(self, value):
        """Whether any value is a further leaf of this world."""
        if not self._more or not isinstance(value, tuple) or len(value) != 2:
            return False
        return value[0] == "*" and is_integer(value[1]) and value[1] >= 0

    def _is_open(self, value):
        """Whether any value is a form without a sign of the world in it: "_", a letter or ("*",)."""
        if isinstance(value, tuple):
            return self._more and len(value) == 1 and value[0] == "*"
        return value == "_" or is_name(value)

    def _order_of(self, tree):
        """What tells the place of a tree among the trees: for each node from the front its size, rank and number."""
        keys = []
        for node, size in zip(nodes_of(tree), sizes_of(tree)):
            keys.append((size, self._ranks[node[0]], node[1] if node[0] == "*" else 0))
        return keys
