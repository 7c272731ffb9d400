"""[3] and stage 6: count, tree_at and place_of, against the row of all trees, and beyond it by plain sums."""

import copy
import functools
import itertools
import unittest

from butthese import counts
from butthese.counts import count, place_of, tree_at
from butthese.errors import BadForms, HasMore, NotPlain, NotThere
from butthese.lists import missed, reached
from butthese.lots import Lot
from butthese.rests import parted, rest, shared
from butthese.worlds import World
import plain
from plain import (A, CHAIN, FORKS, FULL, LONE_PAIRS, MIXED, NIL, ONE, PAIRS, POINT, THREE, TRIPLES, TWO, WIDE,
                   WIDE_FULL, WIDE_PAIRS, WORLDS, Forms, at_place)
from wrong import WrongPlainLists

GREATEST = 200
COUNTED = [POINT, TWO, THREE, CHAIN, TRIPLES, LONE_PAIRS, PAIRS, MIXED, FORKS, FULL]


def in_order(world, trees):
    """Trees in the order of [3]."""

    def compared(first, second):
        return plain.before(world, second, first) - plain.before(world, first, second)

    return sorted(trees, key=functools.cmp_to_key(compared))


def fits_any(forms, tree):
    return any(plain.plain_fits(form, tree) for form in forms)


def times(first, second):
    """The product of two power series up to the greatest size."""
    product = [0] * (GREATEST + 1)
    for at, one in enumerate(first):
        if one:
            for behind in range(GREATEST + 1 - at):
                product[at + behind] += one * second[behind]
    return product


def all_trees(world):
    """How many trees of each size there are: those of a sign are one greater than its parts together."""
    trees = [0] * (GREATEST + 1)
    rows = {many: [0] * (GREATEST + 1) for many in range(4)}
    rows[0][0] = 1
    for size in range(1, GREATEST + 1):
        for many in range(1, 4):
            rows[many][size - 1] = sum(trees[first] * rows[many - 1][size - 1 - first] for first in range(1, size))
        trees[size] = sum(rows[many][size - 1] for _, many in world.signs)
    return trees


def trees_of_form(form, trees):
    """How many trees of each size a plain form fits."""
    if type(form) is str:
        return trees
    told = [0, 1] + [0] * (GREATEST - 1)
    for part in form[1:]:
        told = times(told, trees_of_form(part, trees))
    return told


def trees_of_list(world, forms, trees):
    """The same for a list: all that some of the forms share, added and taken away by turns."""
    told = [0] * (GREATEST + 1)
    for many in range(1, len(forms) + 1):
        for some in itertools.combinations(forms, many):
            both = some[0]
            for form in some[1:]:
                both = both if both is None else shared(world, both, form)
            if both is not None:
                numbers = trees_of_form(both, trees)
                told = [known + (1 if many % 2 else -1) * number for known, number in zip(told, numbers)]
    return told


class Examples(unittest.TestCase):
    def test_examples_of_the_document(self):
        world = World([("nil", 0), ("one", 0), ("pair", 2)])
        self.assertEqual([count(world, ["x"], 1), count(world, ["x"], 3), count(world, ["x"], 5),
                          count(world, ["x"], 2), count(world, [("pair", NIL, "_")], 5)], [2, 4, 16, 0, 4])
        self.assertEqual([tree_at(world, ["x"], 0), tree_at(world, ["x"], 3),
                          place_of(world, ["x"], ("pair", NIL, ONE)), tree_at(world, [NIL], 1)],
                         [NIL, ("pair", NIL, ONE), 3, None])

    def test_functions_stand_in_the_file(self):
        for function in (count, tree_at, place_of):
            self.assertEqual(function.__module__, "butthese.counts")
            self.assertIs(getattr(counts, function.__name__), function)

    def test_arguments_by_their_names(self):
        self.assertEqual(count(size=3, forms=["x"], world=PAIRS), 4)
        self.assertEqual(tree_at(number=1, world=PAIRS, forms=["x"]), ONE)
        self.assertEqual(place_of(tree=ONE, forms=["x"], world=PAIRS), 1)


class RowOfAllTrees(unittest.TestCase):
    def check(self, world, forms, row):
        """All numbers of a list against a row of all trees up to some size, in their order."""
        fitting = [tree for tree in row if fits_any(forms, tree)]
        for size in range(1, plain.size(row[-1]) + 1):
            told = count(world, forms, size)
            self.assertIs(type(told), int)
            self.assertEqual(told, sum(plain.size(tree) == size for tree in fitting), (world.signs, forms, size))
        for number, tree in list(enumerate(fitting))[::3]:
            self.assertEqual(tree_at(world, forms, number), tree, (world.signs, forms, number))
            told = place_of(world, forms, tree)
            self.assertIs(type(told), int)
            self.assertEqual(told, number, (world.signs, forms, tree))
        for tree in row[::9]:
            if tree not in fitting:
                with self.assertRaises(NotThere) as caught:
                    place_of(world, forms, tree)
                self.assertIs(caught.exception.value, tree)
        if not world.endless:
            self.assertEqual([tree_at(world, forms, len(fitting) + more) for more in (0, 1, 10 ** 59)], [None] * 3)

    def test_random_lists(self):
        for seed, world in enumerate(COUNTED):
            forms = Forms(world, seed)
            row = in_order(world, plain.trees_up_to(world, 130))
            for turn in range(25):
                self.check(world, forms.plain_list(6, 12, (0.6, 0.9)[turn % 2]), row)

    def test_lists_that_the_package_told(self):
        for seed, world in enumerate(COUNTED):
            forms = Forms(world, seed + 20)
            row = in_order(world, plain.trees_up_to(world, 130))
            for turn in range(7):
                first, second = forms.plain_list(4, 8), forms.plain_list(6, 12, 0.9)
                self.check(world, rest(world, first), row)
                self.check(world, rest(world, first) + second + rest(world, second[:3]), row)
                for part in parted(world, second):
                    self.check(world, part, row)
                lot, other = Lot(world, first), Lot(world, second)
                for told in (lot, other.less(lot), lot.joined(other), lot.both(other).others()):
                    self.check(world, told.forms, row)

    def test_all_trees_to_a_greater_size(self):
        for world, many in ((PAIRS, 600), (MIXED, 600), (TRIPLES, 300), (FULL, 3500), (CHAIN, 12)):
            row = in_order(world, plain.trees_up_to(world, many))
            self.check(world, ["x"], row)
            self.check(world, rest(world, [row[-1]]), row)

    def test_empty_lists_and_forms_put_twice(self):
        for world in COUNTED:
            self.assertEqual([count(world, [], size) for size in (1, 7, GREATEST)], [0, 0, 0])
            self.assertIsNone(tree_at(world, [], 0))
            row = in_order(world, plain.trees_up_to(world, 60))
            with self.assertRaises(NotThere):
                place_of(world, [], row[0])
            self.check(world, ["x", "_", "x"], row)
            form = (world.signs[-1][0], *["_"] * world.signs[-1][1])
            self.check(world, [form, form], row)

    def test_number_by_number_through_the_sizes(self):
        """Each tree stands behind the one ahead of it, and there is none between them."""
        told = [tree_at(MIXED, [("h", "x", ("g", "_")), ("g", "_")], number) for number in range(60)]
        for one, other in zip(told, told[1:]):
            self.assertTrue(plain.before(MIXED, one, other))
        last = plain.size(told[-1])
        row = in_order(MIXED, plain.small_trees(MIXED, last))
        self.assertEqual(told, [tree for tree in row if fits_any([("h", "x", ("g", "_")), ("g", "_")], tree)][:60])


class FewTrees(unittest.TestCase):
    def test_finite_worlds(self):
        self.assertEqual([count(POINT, ["_"], size) for size in (1, 2, GREATEST)], [1, 0, 0])
        self.assertEqual([tree_at(THREE, ["x"], number) for number in range(5)],
                         [("red",), ("green",), ("blue",), None, None])
        self.assertEqual([tree_at(THREE, [("blue",), ("red",)], number) for number in range(4)],
                         [("red",), ("blue",), None, None])
        self.assertEqual(place_of(THREE, [("blue",), ("red",)], ("blue",)), 1)

    def test_lists_that_fit_few_trees_of_an_endless_world(self):
        trees = [("pair", NIL, ("pair", ONE, NIL)), NIL, ("pair", ONE, ONE), ("pair", ("pair", ONE, NIL), NIL)]
        row = in_order(PAIRS, trees)
        self.assertEqual([tree_at(PAIRS, trees, number) for number in range(6)], [*row, None, None])
        self.assertEqual([place_of(PAIRS, trees, tree) for tree in row], [0, 1, 2, 3])
        self.assertEqual([count(PAIRS, trees, size) for size in (1, 2, 3, 5, GREATEST)], [1, 0, 1, 2, 0])
        self.assertIsNone(tree_at(PAIRS, [NIL], 10 ** 59))
        tree = plain.chain(199)
        self.assertEqual([tree_at(CHAIN, [tree], 0), tree_at(CHAIN, [tree], 1)], [tree, None])
        self.assertEqual([count(CHAIN, [tree], size) for size in (199, 200)], [0, 1])
        self.assertEqual([count(CHAIN, rest(CHAIN, [tree]), size) for size in (199, 200)], [1, 0])

    def test_sizes_at_which_there_are_none(self):
        self.assertEqual([count(TRIPLES, ["x"], size) for size in range(1, 11)], [1, 0, 0, 1, 0, 0, 3, 0, 0, 12])
        self.assertEqual([count(LONE_PAIRS, ["x"], size) for size in range(1, 10)], [1, 0, 1, 0, 2, 0, 5, 0, 14])
        self.assertEqual(count(PAIRS, ["x"], GREATEST), 0)


class GreatTrees(unittest.TestCase):
    def test_sizes_up_to_two_hundred(self):
        for seed, world in enumerate(COUNTED):
            forms = Forms(world, seed + 40)
            trees = all_trees(world)
            self.assertEqual([count(world, ["_"], size) for size in (1, 2, 57, 198, 199, GREATEST)],
                             [trees[size] for size in (1, 2, 57, 198, 199, GREATEST)])
            for turn in range(2):
                passed = forms.plain_list(4, 8, 0.9)
                due = trees_of_list(world, passed, trees)
                for size in (1, 2, 3, 50, 101, 199, GREATEST):
                    self.assertEqual(count(world, passed, size), due[size], (world.signs, passed, size))
                    self.assertEqual(count(world, rest(world, passed), size), trees[size] - due[size])

    def test_trees_up_to_two_hundred_signs(self):
        for seed, world in enumerate([MIXED, PAIRS, TRIPLES, FULL, FORKS]):
            forms, trees = Forms(world, seed + 60), all_trees(world)
            for turn in range(6):
                passed = forms.plain_list(4, 12, 0.9)
                due = trees_of_list(world, passed, trees)
                if turn % 2:
                    passed = rest(world, passed)
                    due = [number - less for number, less in zip(trees, due)]
                size = max(size for size in range(GREATEST + 1) if due[size] or not size)
                least, many = sum(due[:size]), due[size]
                if many:
                    self.check_numbers(world, passed, size, sorted({least, least + many // 3, least + many - 1}))

    def check_numbers(self, world, passed, size, asked):
        """Trees of a size with rising numbers."""
        trees = [tree_at(world, passed, number) for number in asked]
        for number, tree in zip(asked, trees):
            self.assertTrue(plain.is_tree(world, tree) and fits_any(passed, tree))
            self.assertEqual(plain.size(tree), size)
            self.assertEqual(place_of(world, passed, tree), number)
            self.assertEqual(tree_at(world, passed, number), tree)
        for one, other in zip(trees, trees[1:]):
            self.assertTrue(plain.before(world, one, other))

    def test_the_first_and_the_last_tree_of_a_size(self):
        """The last tree of a size has the greatest first parts; the first one has the smallest."""
        first, last = NIL, ONE
        for _ in range(99):
            first, last = ("pair", NIL, first), ("pair", last, ONE)
        least = sum(count(PAIRS, ["x"], size) for size in range(1, 199))
        self.assertEqual(place_of(PAIRS, ["x"], first), least)
        self.assertEqual(tree_at(PAIRS, ["x"], least), first)
        last_number = least + count(PAIRS, ["x"], 199) - 1
        self.assertEqual(place_of(PAIRS, ["x"], last), last_number)
        self.assertEqual(tree_at(PAIRS, ["x"], last_number), last)
        self.assertGreater(last_number, 10 ** 60)
        for tree in (first, last):
            others = rest(PAIRS, [tree])
            with self.assertRaises(NotThere):
                place_of(PAIRS, others, tree)
            self.assertEqual(count(PAIRS, others, 199), count(PAIRS, ["x"], 199) - 1)
            self.assertEqual([tree_at(PAIRS, [tree], 0), tree_at(PAIRS, [tree], 1)], [tree, None])
        self.assertEqual(tree_at(PAIRS, rest(PAIRS, [last]), last_number - 1), tree_at(PAIRS, ["x"], last_number - 1))

    def test_trees_side_by_side(self):
        """One tree stands right behind another one, whatever its number."""
        for number in (10 ** 20, 10 ** 40, 10 ** 59):
            one, other, third = [tree_at(FULL, ["x"], number + more) for more in range(3)]
            self.assertTrue(plain.before(FULL, one, other) and plain.before(FULL, other, third))
            self.assertEqual([place_of(FULL, ["x"], tree) for tree in (one, other, third)],
                             [number, number + 1, number + 2])

    def test_great_told_lists(self):
        world = World(WIDE_FULL.signs)
        first = [at_place(path, A) for path in plain.PATHS[:4]]
        told = rest(world, first)
        self.assertGreater(len(told), 1000)
        trees = all_trees(world)
        self.assertEqual(count(world, told, 61), trees[61] - trees_of_list(world, first, trees)[61])
        number = 10 ** 50
        tree = tree_at(world, told + first[:1], number)
        self.assertTrue(fits_any(told + first[:1], tree))
        self.assertEqual(place_of(world, told + first[:1], tree), number)


class General(unittest.TestCase):
    def test_what_is_handed_in_stays_and_calls_can_be_made_again(self):
        for seed, world in enumerate(COUNTED):
            passed = Forms(world, seed + 80).plain_list()
            kept = copy.deepcopy(passed)
            for _ in range(2):
                told = [count(world, passed, 5), tree_at(world, passed, 2)]
                self.assertEqual(told, [count(world, kept, 5), tree_at(world, kept, 2)])
                self.assertEqual(passed, kept)

    def test_other_names_in_the_same_sequence(self):
        """The order goes by the sequence of the signs, not by their names."""
        other = World([("z", 0), ("y", 0), ("a", 2)])
        names = {"nil": "z", "one": "y", "pair": "a"}

        def renamed(tree):
            return (names[tree[0]], *map(renamed, tree[1:]))

        for number in range(0, 200, 7):
            tree = tree_at(PAIRS, [ONE, ("pair", "_", NIL)], number)
            self.assertEqual(tree_at(other, [("y",), ("a", "_", ("z",))], number), renamed(tree))

    def test_forms_are_reached_just_if_they_add_trees(self):
        for seed, world in enumerate([PAIRS, MIXED, FORKS]):
            forms = Forms(world, seed + 90)
            for _ in range(15):
                passed = forms.plain_list(5, 10)
                for at, tree in enumerate(reached(world, passed)):
                    if tree is not None:
                        size = plain.size(tree)
                        self.assertGreater(count(world, passed[:at + 1], size), count(world, passed[:at], size))
                tree = missed(world, passed)
                if tree is not None:
                    size = plain.size(tree)
                    self.assertLess(count(world, passed, size), count(world, ["_"], size))


def place_or_none(world, forms):
    """The number of the first tree of a world in a list, if it is there."""
    leaf = [(name,) for name, many in world.signs if many == 0][0]
    try:
        return place_of(world, forms, leaf)
    except NotThere:
        return None


class Wrong(WrongPlainLists, unittest.TestCase):
    calls = (lambda world, forms: count(world, forms, 3), lambda world, forms: tree_at(world, forms, 1),
             place_or_none)
    lets_more = False

    def raises_by_all(self, error, world, forms, tree):
        for call in (lambda: count(world, forms, 3), lambda: tree_at(world, forms, 0),
                     lambda: place_of(world, forms, tree)):
            with self.assertRaises(error) as caught:
                call()
            self.assertIs(type(caught.exception), error)
        return caught.exception

    def test_worlds_that_have_more_ahead_of_all_other_errors(self):
        for world in (WIDE, WIDE_PAIRS, WIDE_FULL):
            for forms in ([], ["x"], [("*",)], [None], ["x", ("pair", "x", "x")], [["nil"], ("pair", "x", "x")]):
                for tree in (NIL, ("*", 0), None):
                    self.assertIs(self.raises_by_all(HasMore, world, forms, tree).value, world)

    def test_bad_lists_ahead_of_trees_that_are_not_there(self):
        double = ("pair", "x", "x")
        for tree in (None, NIL, ("pair", "x", NIL)):
            self.assertEqual(self.raises_by_all(BadForms, PAIRS, [double, "x", 5], tree).position, 2)
            self.assertEqual(self.raises_by_all(NotPlain, PAIRS, ["x", NIL, double], tree).position, 2)

    def test_any_value_that_is_not_a_tree_of_the_list(self):
        lists = (["x"], [NIL, ("pair", "_", ONE)], [])
        for value in [*plain.anything(), ("*", 0), ("pair", "x", NIL), "x", "_", lists, Lot(PAIRS, ["x"]), PAIRS]:
            for forms in lists:
                with self.assertRaises(NotThere) as caught:
                    place_of(PAIRS, forms, value)
                self.assertIs(type(caught.exception), NotThere)
                self.assertIs(caught.exception.value, value)

    def test_trees_with_parts_changed(self):
        for seed, world in enumerate(self.let(WORLDS)):
            forms = Forms(world, seed + 70)
            for tree in plain.trees_up_to(world, 60)[::9]:
                passed = forms.plain_list() + rest(world, forms.plain_list(2, 4))[:3]
                for value in plain.changed(tree):
                    if plain.is_tree(world, value) and fits_any(passed, value):
                        self.assertEqual(tree_at(world, passed, place_of(world, passed, value)), value)
                    else:
                        with self.assertRaises(NotThere) as caught:
                            place_of(world, passed, value)
                        self.assertIs(caught.exception.value, value)

    def test_great_trees_that_are_not_there(self):
        tree = plain.chain(5000)
        with self.assertRaises(NotThere) as caught:
            place_of(CHAIN, [("zero",), ("next", ("next", ("zero",)))], tree)
        self.assertIs(caught.exception.value, tree)


if __name__ == "__main__":
    unittest.main()
