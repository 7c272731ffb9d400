"""Plain readings of DOC.md for the tests: slow, recursive, and apart from the code of the package."""

import random
from fractions import Fraction
from itertools import product

from butthese import errors
from butthese.worlds import World

NAME_SIGNS = set("abcdefghijklmnopqrstuvwxyz")

POINT = World([("nil", 0)])
THREE = World([("red", 0), ("green", 0), ("blue", 0)])
CHAIN = World([("zero", 0), ("next", 1)])
PAIRS = World([("nil", 0), ("one", 0), ("pair", 2)])
FULL = World([("f", 3), ("a", 0), ("g", 1), ("b", 0), ("h", 2), ("k", 3)])
WIDE = World([("nil", 0)], more=True)
WIDE_PAIRS = World([("pair", 2), ("nil", 0)], more=True)
WIDE_FULL = World([("a", 0), ("f", 3), ("b", 0), ("g", 1), ("c", 0), ("h", 2)], more=True)
NIL, ONE, A, B = ("nil",), ("one",), ("a",), ("b",)
WORLDS = [POINT, THREE, CHAIN, PAIRS, FULL, WIDE, WIDE_PAIRS, WIDE_FULL]

# Worlds with few signs: here forms whose letters stand twice leave no tree the soonest.
TWO = World([("a", 0), ("b", 0)])
TRIPLES = World([("a", 0), ("f", 3)])
LONE_PAIRS = World([("a", 0), ("h", 2)])
MIXED = World([("a", 0), ("g", 1), ("h", 2)])
FORKS = World([("a", 0), ("b", 0), ("g", 1)])
WIDE_CHAIN = World([("a", 0), ("g", 1)], more=True)
WIDE_TWO = World([("a", 0), ("b", 0)], more=True)
TIGHT_WORLDS = [POINT, TWO, THREE, CHAIN, TRIPLES, LONE_PAIRS, PAIRS, MIXED, FORKS, WIDE, WIDE_TWO, WIDE_CHAIN,
                WIDE_PAIRS]


def is_name(value):
    return type(value) is str and 1 <= len(value) <= 8 and set(value) <= NAME_SIGNS


def is_integer(value):
    return type(value) is int


def has_parts(world, value, is_part):
    """Whether a value is a sign of the world with as many parts as it has, each one as asked."""
    if type(value) is not tuple or not value or type(value[0]) is not str:
        return False
    numbers = dict(world.signs)
    return value[0] in numbers and len(value) == numbers[value[0]] + 1 and all(map(is_part, value[1:]))


def is_further(world, value):
    return (world.more and type(value) is tuple and len(value) == 2 and type(value[0]) is str
            and value[0] == "*" and is_integer(value[1]) and value[1] >= 0)


def is_tree(world, value):
    return is_further(world, value) or has_parts(world, value, lambda part: is_tree(world, part))


def is_form(world, value):
    if type(value) is str:
        return value == "_" or is_name(value)
    if world.more and type(value) is tuple and len(value) == 1 and value[0] == "*":
        return True
    return has_parts(world, value, lambda part: is_form(world, part))


def letters(form):
    """The letters of a form from the front, as often as they stand in it."""
    if type(form) is str:
        return [] if form == "_" else [form]
    return [letter for part in form[1:] for letter in letters(part)]


def is_plain(world, value):
    return is_form(world, value) and len(letters(value)) == len(set(letters(value)))


def size(tree):
    return 1 if tree[0] == "*" else 1 + sum(map(size, tree[1:]))


def before(world, first, second):
    """[3], word by word."""
    if size(first) != size(second):
        return size(first) < size(second)
    ranks = [name for name, _ in world.signs] + ["*"]
    if first[0] != second[0]:
        return ranks.index(first[0]) < ranks.index(second[0])
    if first[0] == "*":
        return first[1] < second[1]
    for one, other in zip(first[1:], second[1:]):
        if one != other:
            return before(world, one, other)
    return False


def depth(form):
    if type(form) is str or form[0] == "*":
        return 0 if type(form) is str else 1
    return 1 + max(map(depth, form[1:]), default=0)


def signs_in(form):
    """How many signs, and ("*",), a form has."""
    return 0 if type(form) is str else 1 + sum(map(signs_in, form[1:]))


def text(form):
    """The text of a form."""
    return form if type(form) is str else "(" + " ".join([form[0], *map(text, form[1:])]) + ")"


def parts_of_size(trees, many, total):
    """All tuples of so many trees with so many signs in all."""
    if many == 0:
        return [()] if total == 0 else []
    return [(tree, *others) for first in range(1, total + 1) for tree in trees.get(first, [])
            for others in parts_of_size(trees, many - 1, total - first)]


def small_trees(world, most, further=2):
    """All trees of at most so many signs, with further leaves from 0 on up to a bound."""
    trees = {}
    for total in range(1, most + 1):
        trees[total] = [(name, *parts) for name, many in world.signs
                        for parts in parts_of_size(trees, many, total - 1)]
        if world.more and total == 1:
            trees[1] += [("*", number) for number in range(further)]
    return [tree for total in trees for tree in trees[total]]


def trees_up_to(world, many, further=3):
    """All trees up to some size: to the greatest one of which, with the smaller ones, there are not more than many."""
    told = []
    for most in range(1, 13):
        trees = small_trees(world, most, further)
        if len(trees) > many:
            break
        told = trees
    return told


def subtrees(tree):
    return [tree] + ([] if tree[0] == "*" else [below for part in tree[1:] for below in subtrees(part)])


def becomes(form, tree, values):
    """Whether a form becomes a tree with the values of its letters and something for "_" and ("*",)."""
    if form == "_":
        return True
    if type(form) is str:
        return values[form] == tree
    if form[0] != tree[0]:
        return False
    return form[0] == "*" or all(becomes(*pair, values) for pair in zip(form[1:], tree[1:]))


def fitting(form, tree):
    """All dicts from the letters of a form to trees by which it fits a tree: there is one at most."""
    names = sorted(set(letters(form)))
    below = list(dict.fromkeys(subtrees(tree)))
    tried = [dict(zip(names, values)) for values in product(below, repeat=len(names))]
    return [values for values in tried if becomes(form, tree, values)]


def plain_fits(form, tree):
    """Whether a plain form fits a tree: its letters may be anything, each on its own."""
    if type(form) is str:
        return True
    if form[0] != tree[0]:
        return False
    return form[0] == "*" or all(plain_fits(*pair) for pair in zip(form[1:], tree[1:]))


def matches(form, tree, values):
    """Whether a form fits a tree, seen from the front: the first place of a letter tells what it stands for."""
    if form == "_":
        return True
    if type(form) is str:
        return values.setdefault(form, tree) == tree
    if form[0] != tree[0]:
        return False
    return form[0] == "*" or all(matches(*pair, values) for pair in zip(form[1:], tree[1:]))


def fits(form, tree):
    """Whether a form fits a tree."""
    return matches(form, tree, {})


def put_in(form, values):
    """The tree that a form of signs and letters becomes."""
    return values[form] if type(form) is str else (form[0], *[put_in(part, values) for part in form[1:]])


def is_bare(world, value):
    """Whether a value is a form without "_" and ("*",)."""
    if type(value) is str:
        return is_name(value)
    return is_form(world, value) and value[0] != "*" and all(is_bare(world, part) for part in value[1:])


def is_condition(world, value):
    """[7], word by word."""
    if type(value) is not tuple or len(value) != 3 or type(value[0]) is not str or not is_bare(world, value[1]):
        return False
    if value[0] in ("alike", "unlike"):
        return is_bare(world, value[2])
    return value[0] in ("fits", "misses") and is_form(world, value[2])


def condition_holds(condition, values):
    """Whether a condition holds for a dict, as [7] says it."""
    word, form, other = condition
    tree = put_in(form, values)
    if word in ("alike", "unlike"):
        return (tree == put_in(other, values)) is (word == "alike")
    return fits(other, tree) is (word == "fits")


def saying_holds(saying, values):
    return all(condition_holds(condition, values) for condition in saying)


def letters_of(saying):
    """The letters of the forms of a saying, in ascending order."""
    forms = [form for word, *both in saying for form in (both if word in ("alike", "unlike") else both[:1])]
    return sorted({letter for form in forms for letter in letters(form)})


def apart(first, second):
    """Whether no tree fits both of two plain forms."""
    if type(first) is str or type(second) is str:
        return False
    return first[0] != second[0] or any(apart(*pair) for pair in zip(first[1:], second[1:]))


def within(first, second):
    """Whether a plain form fits all trees that the first one fits, as seen from the signs alone."""
    if type(second) is str:
        return True
    if type(first) is str or first[0] != second[0]:
        return False
    return all(within(*pair) for pair in zip(first[1:], second[1:]))


def share(world, form):
    """The share of a plain form in all trees when each sign, and "*", is as likely as any other anywhere.

    Plain forms that are apart pairwise fit all trees if, and only if, their shares add up to 1.
    (In a world of one sign without parts "_" and that sign have the same share, too.)
    """
    return Fraction(1, (len(world.signs) + world.more) ** signs_in(form))


def fillings(world, form):
    """Some trees that a plain form fits: the same small tree at each free place, and different ones."""
    leaves = small_trees(world, 1)
    trees = leaves + small_trees(world, 4)[len(leaves):len(leaves) + 3]

    def filled(node, at):
        if type(node) is str:
            at[0] += at[1]
            return trees[at[0] % len(trees)]
        if node == ("*",):
            return ("*", at[0] % 3)
        return (node[0], *[filled(part, at) for part in node[1:]])

    return [filled(form, [start, step]) for start in range(len(trees)) for step in (0, 1)]


class Forms:
    """Random forms and lists of them, the same ones for the same seed."""

    def __init__(self, world, seed):
        self.world = world
        self.random = random.Random(seed)
        self.heads = [*world.signs] + ([("*", 0)] if world.more else [])

    def form(self, signs, depth_left=4, names="xyz", eager=0.7):
        """A form of at most so many signs, and how many it has."""
        if not signs or not depth_left or self.random.random() > eager:
            return self.random.choice(["_", *names]), 0
        name, many = self.random.choice(self.heads)
        used = 1
        parts = [None] * many
        for at in self.random.sample(range(many), many):
            parts[at], below = self.form(signs - used, depth_left - 1, names, eager)
            used += below
        return (name, *parts), used

    def plain(self, signs, depth_left=4, eager=0.7):
        """A plain form of at most so many signs, and how many it has."""
        form, used = self.form(signs, depth_left, "x", eager)
        fresh = iter("abcdefghijklmnopqrstuvwxyz" * 4)
        taken = set()

        def renamed(node):
            if type(node) is not str:
                return (node[0], *map(renamed, node[1:]))
            name = next(fresh)
            if node == "_" or name in taken:
                return "_"
            taken.add(name)
            return name

        return renamed(form), used

    def plain_list(self, most=6, signs=12, eager=0.7):
        """A list of plain forms within the bounds of [4]."""
        forms = []
        for _ in range(self.random.randint(0, most)):
            form, used = self.plain(min(signs, self.random.randint(1, 5)), eager=eager)
            if used or self.random.random() < 0.1:
                forms.append(form)
                signs -= used
        return forms


    def tree(self, depth_left):
        """A tree that is not deeper than that."""
        name, many = self.random.choice([head for head in self.heads if depth_left > 1 or not head[1]])
        if name == "*":
            return ("*", self.random.randrange(3))
        return (name, *[self.tree(depth_left - 1) for _ in range(many)])

    def around(self, tree, names="xy", ease=0.1):
        """A form with the signs of a tree, but for a letter or "_" in the place of some parts, deep ones rather."""
        if self.random.random() < ease:
            return self.random.choice(["_", *names])
        if tree[0] == "*":
            return self.random.choice(["_", ("*",), *names])
        return (tree[0], *[self.around(part, names, ease + 0.15) for part in tree[1:]])

    def bare(self, signs, names, eager=0.6):
        """A form without "_" and ("*",)."""
        while True:
            form, _ = self.form(signs, 4, names, eager)
            if is_bare(self.world, form):
                return form

    def list(self, most=6, signs=12, names="xy", eager=0.7):
        """A list of forms within the bounds of [4], in which letters may stand twice."""
        forms = []
        for _ in range(self.random.randint(0, most)):
            form, used = self.form(min(signs, self.random.randint(1, 5)), 4, names, eager)
            if used or self.random.random() < 0.1:
                forms.append(form)
                signs -= used
        return forms

    def condition(self, names="xy", signs=3):
        """A condition; the letters of patterns have the names x and y, as some outside have."""
        word = self.random.choice(["alike", "unlike", "unlike", "fits", "misses", "misses"])
        form = self.bare(self.random.choice([0, 0, 0, 1, 2]), names)
        if word in ("alike", "unlike"):
            return (word, form, self.bare(self.random.randint(0, signs), names))
        return (word, form, self.form(self.random.randint(0, signs), 4, "xy", self.random.choice([0.6, 0.9]))[0])

    def saying(self, most=6, names="xy", signs=3):
        return [self.condition(names, signs) for _ in range(self.random.randint(0, most))]


def nested(many):
    """A list, tuple or dict that is nested so many deep."""
    value = "x"
    for at in range(many):
        value = [[value], (value,), {"x": value}, ("pair", value, value)][at % 4]
        if at % 4 == 3:
            value = ("pair", ("nil",), value[1])
    return value


def at_place(path, leaf):
    """A form of ternary signs f that has a leaf at a place and "_" elsewhere."""
    parts = ["_", "_", "_"]
    if not path:
        return leaf
    parts[path[0]] = at_place(path[1:], leaf)
    return ("f", *parts)


PATHS = list(product(range(3), repeat=2))


def chain(many):
    """The tree of CHAIN that is so many signs above zero."""
    tree = ("zero",)
    for _ in range(many):
        tree = ("next", tree)
    return tree


LONG_NAMES = World([("abcdefgh", 3), ("bbbbbbbb", 0)], more=True)


def great_forms():
    """A function from numbers to plain forms of LONG_NAMES: full ones one deeper, whose letters have long names."""
    names = ("".join(name) for name in product("abcdefgh", repeat=8))

    def full(depth_left):
        parts = [full(depth_left - 1) if depth_left else next(names) for _ in range(3)]
        return ("abcdefgh", *parts)

    return full


def anything():
    """Values of all the kinds of [1] that are neither forms nor trees of any world."""
    values = [None, True, False, 0, 1, -1, 10 ** 59, "", "__", "X", "x1", "x y", "x\n", "*", "~", "abcdefghi", " x",
              (), ((),), ("",), ("_",), ("x", ), ("*", True), ("*", -1), ("*", "1"), ("*", None), ("*", 1, 2),
              ("*", ("nil",)), (None,), (0,), (("nil",),), (["nil"],), ({},), [], ["nil"], ["x"], [("nil",)],
              ["*"], {}, {"x": ("nil",)}, {"nil": 0}, {("nil",): 1}, PAIRS, (PAIRS,), ("pair", PAIRS, WIDE),
              errors.BadTree(("nil",)), (errors.BadTree(1),), nested(29), [nested(28)], ("nil", 0), ("nil", None)]
    return values


def changed(value):
    """Copies of a tree or form with parts exchanged, left out, repeated or put in, at all depths."""
    if type(value) is not tuple:
        return [value + "_", value + value, value.upper(), [value], (value,), None] if type(value) is str else [True]
    copies = [list(value), value[1:], value[:-1], value + value[-1:], value[::-1], (value,), ("*",), ("*", 0),
              ("*", True), (*value, "_"), (*value, None), (value[0].upper(), *value[1:]), (*value[:1], [], *value[2:]),
              {"x": value}, value[:1] + value[:1] + value[1:], (value[1:], *value[:1])]
    for at in range(len(value)):
        if type(value[at]) is not int:
            copies += [(*value[:at], part, *value[at + 1:]) for part in changed(value[at])]
    return copies
