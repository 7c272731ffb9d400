"""[4], [5] and stage 4: missed, reached, unlike_tree and same, over all small trees and beyond them."""

import copy
import itertools
import unittest

from butthese import lists
from butthese.errors import BadForms
from butthese.lists import missed, reached, same, unlike_tree
from butthese.rests import parted, rest
from butthese.worlds import World
import plain
from plain import (A, B, CHAIN, FULL, LONE_PAIRS, MIXED, NIL, ONE, PAIRS, PATHS, POINT, THREE, TIGHT_WORLDS, TRIPLES,
                   TWO, WIDE, WIDE_FULL, WIDE_PAIRS, WIDE_TWO, WORLDS, Forms, at_place)

DEEPEST_TOLD = 300


def fits_any(forms, tree):
    return any(plain.fits(form, tree) for form in forms)


class Lists(unittest.TestCase):
    """What is asked of what is told, and of what is not told, as [5] says it."""

    def check_tree(self, world, tree):
        self.assertTrue(plain.is_tree(world, tree), tree)
        self.assertLessEqual(plain.depth(tree), DEEPEST_TOLD)

    def check_missed(self, world, forms, trees):
        told = missed(world, forms)
        if told is None:
            for tree in trees:
                self.assertTrue(fits_any(forms, tree), (world.signs, forms, tree))
        else:
            self.check_tree(world, told)
            self.assertFalse(fits_any(forms, told), (world.signs, forms, told))
        return told

    def check_reached(self, world, forms, trees):
        told = reached(world, forms)
        self.assertIs(type(told), list)
        self.assertEqual(len(told), len(forms))
        first = [[plain.fits(form, tree) for form in forms].index(True) for tree in trees if fits_any(forms, tree)]
        for position, tree in enumerate(told):
            if tree is None:
                self.assertNotIn(position, first, (world.signs, forms))
            else:
                self.check_tree(world, tree)
                self.assertTrue(plain.fits(forms[position], tree), (forms, position, tree))
                self.assertFalse(fits_any(forms[:position], tree), (forms, position, tree))
        return told

    def check_unlike(self, world, first, second, trees):
        told = unlike_tree(world, first, second)
        self.assertIs(same(world, first, second), told is None)
        if told is None:
            for tree in trees:
                self.assertIs(fits_any(first, tree), fits_any(second, tree), (world.signs, first, second, tree))
        else:
            self.check_tree(world, told)
            self.assertIsNot(fits_any(first, told), fits_any(second, told), (world.signs, first, second, told))
        return told

    def check(self, world, first, second, trees):
        kept = copy.deepcopy((first, second))
        self.check_missed(world, first, trees)
        self.check_reached(world, first, trees)
        self.check_unlike(world, first, second, trees)
        self.assertEqual((first, second), kept)


class Examples(Lists):
    def test_examples_of_the_document(self):
        world = World([("nil", 0), ("one", 0), ("pair", 2)])
        self.assertEqual([missed(world, ["x"]), missed(world, [("pair", "x", "y"), NIL]),
                          reached(world, [NIL, ("pair", "x", "x"), NIL])[2]], [None, ONE, None])
        self.assertEqual([same(world, [("pair", "x", "x"), ("pair", "x", "y")], [("pair", "_", "_")]),
                          same(world, [("pair", "x", "x")], [("pair", "_", "_")]),
                          unlike_tree(world, ["x"], [ONE, ("pair", "_", "_")])], [True, False, NIL])

    def test_functions_stand_in_the_file(self):
        for function in (missed, reached, unlike_tree, same):
            self.assertEqual(function.__module__, "butthese.lists")
            self.assertIs(getattr(lists, function.__name__), function)

    def test_arguments_by_their_names(self):
        self.assertEqual(missed(forms=[NIL, ("pair", "_", "_")], world=PAIRS), ONE)
        self.assertEqual(reached(forms=[NIL, NIL], world=PAIRS), [NIL, None])
        self.assertEqual(unlike_tree(second=[NIL], first=[], world=PAIRS), NIL)
        self.assertIs(same(second=[NIL], first=[], world=PAIRS), False)

    def test_calls_made_again(self):
        for seed, world in enumerate(TIGHT_WORLDS):
            forms = Forms(world, seed)
            first, second = forms.list(), forms.list()
            for function, passed in ((missed, [first]), (reached, [first]), (unlike_tree, [first, second])):
                self.assertEqual(function(world, *passed), function(world, *copy.deepcopy(passed)))
            told = reached(world, [*first, "x"])
            told.append(None)
            self.assertEqual(reached(world, [*first, "x"]), told[:-1])


class SmallTrees(Lists):
    def test_random_lists(self):
        for seed, world in enumerate(TIGHT_WORLDS):
            forms = Forms(world, seed)
            trees = plain.trees_up_to(world, 110)
            for turn in range(150):
                eager = (0.5, 0.7, 0.95)[turn % 3]
                names = ("x", "xy", "xyz")[turn % 3]
                first, second = forms.list(7, 16, names, eager), forms.list(6, 12, names, eager)
                if turn % 4 == 0:
                    second = first[::-1] + second[:1]
                self.check(world, first, second, trees)

    def test_random_lists_in_worlds_of_many_signs(self):
        for seed, world in enumerate([FULL, WIDE_FULL]):
            forms = Forms(world, seed)
            trees = plain.trees_up_to(world, 60)
            for turn in range(60):
                self.check(world, forms.list(), forms.list(eager=0.9), trees)

    def test_lists_of_plain_forms(self):
        for seed, world in enumerate(WORLDS):
            forms = Forms(world, seed)
            trees = plain.trees_up_to(world, 60)
            for _ in range(15):
                self.check(world, forms.plain_list(), forms.plain_list(eager=0.9), trees)

    def test_all_small_lists(self):
        for world in (PAIRS, WIDE_PAIRS):
            leaves = [NIL, ONE] if world == PAIRS else [NIL, ("*",)]
            forms = ["x", *leaves, ("pair", "x", "x"), ("pair", "_", "x"), ("pair", NIL, "_"), ("pair", "_", leaves[1])]
            trees = plain.trees_up_to(world, 40)
            for many in range(4):
                for chosen in itertools.product(forms, repeat=many):
                    self.check_missed(world, list(chosen), trees)
                    self.check_reached(world, list(chosen), trees)
            for chosen in itertools.product(forms, repeat=4):
                self.check_unlike(world, list(chosen[:2]), list(chosen[2:]), trees)

    def test_all_lists_in_finite_worlds(self):
        for world in (POINT, TWO, THREE, WIDE, WIDE_TWO):
            leaves = ["x", "_", *[(name,) for name, _ in world.signs], *[("*",)] * world.more]
            trees = plain.trees_up_to(world, 40)
            listed = [list(chosen) for many in range(4) for chosen in itertools.product(leaves, repeat=many)]
            for forms in listed:
                self.check_missed(world, forms, trees)
                self.check_reached(world, forms, trees)
            for first, second in itertools.product(listed[:60], listed[::7]):
                self.check_unlike(world, first, second, trees)

    def test_empty_lists(self):
        for world in TIGHT_WORLDS:
            self.check_tree(world, missed(world, []))
            self.assertEqual(reached(world, []), [])
            self.assertTrue(same(world, [], []))
            self.assertEqual(reached(world, ["x", "_"])[1:], [None])
            self.assertTrue(same(world, ["x"], ["_"]))
            self.check_tree(world, unlike_tree(world, [], ["y"]))


class GreaterTrees(Lists):
    def test_trees_that_lists_are_made_around(self):
        """There is the tree that the list was made around, however great it is, so one must be told."""
        for seed, world in enumerate([*TIGHT_WORLDS, FULL, WIDE_FULL]):
            forms = Forms(world, seed)
            for turn in range(60):
                tree = forms.tree(turn % 4 + 1)
                near = [forms.around(forms.random.choice([tree, forms.tree(3)])) for _ in range(20)]
                missing = [form for form in near if self.is_let(form) and not plain.fits(form, tree)]
                while len(missing) > 7 or sum(map(plain.signs_in, missing)) > 16:
                    missing.pop()
                self.assertIsNotNone(self.check_missed(world, missing, []), (world.signs, missing, tree))
                for form in [form for form in near if self.is_let(form) and plain.fits(form, tree)][:4]:
                    told = self.check_reached(world, [*missing, form], [])
                    self.assertIsNotNone(told[-1], (world.signs, missing, form, tree))
                    self.assertIsNotNone(self.check_unlike(world, missing, [*missing, form], []))
                    self.assertIsNotNone(self.check_unlike(world, [form, *missing], missing, []))

    def is_let(self, form):
        return plain.depth(form) <= 4 and plain.signs_in(form) <= 8

    def test_lists_that_leave_great_trees_alone(self):
        f = ("f", "_", "_", "_")
        for world, forms in (
                (TRIPLES, [A, ("f", "x", "x", "_"), ("f", "x", "_", "x"), ("f", "_", "x", "x")]),
                (TRIPLES, [A, ("f", A, "_", "_"), ("f", "_", A, "_"), ("f", "_", "_", A), ("f", "x", "x", "_"),
                           ("f", "x", "_", "x"), ("f", "_", "x", "x")]),
                (TRIPLES, [A, ("f", A, "_", "_"), ("f", ("f", A, "_", "_"), "_", "_"),
                           ("f", ("f", f, "x", "_"), "x", "_")]),
                (LONE_PAIRS, [A, ("h", A, "_"), ("h", ("h", "x", "x"), "_"), ("h", ("h", "_", "x"), "x")]),
                (LONE_PAIRS, [A, ("h", "_", A), ("h", "x", ("h", "x", "_")), ("h", "x", ("h", "_", "x")),
                              ("h", "x", "x")]),
                (MIXED, [A, ("h", "x", "y"), ("g", A), ("g", ("h", "x", "x")), ("g", ("g", "_"))])):
            told = self.check_missed(world, forms, [])
            self.assertIsNotNone(told, forms)
            self.assertFalse([tree for tree in plain.trees_up_to(world, 4) if not fits_any(forms, tree)])

    def test_lists_that_leave_none_by_letters_that_stand_twice(self):
        h, g = ("h", "_", "_"), ("g", "_")
        for world, forms in (
                (LONE_PAIRS, [A, ("h", h, "_"), ("h", "_", h), ("h", "x", "x")]),
                (TRIPLES, [A, ("f", ("f", "_", "_", "_"), "_", "_"), ("f", "_", ("f", "_", "_", "_"), "_"),
                           ("f", "x", "x", "_")]),
                (MIXED, [A, g, ("h", "x", "x"), ("h", h, "_"), ("h", "_", h), ("h", g, "_"), ("h", "_", g)]),
                (PAIRS, [NIL, ONE, ("pair", "x", "x"), ("pair", ("pair", "_", "_"), "_"),
                         ("pair", "_", ("pair", "_", "_")), ("pair", NIL, ONE), ("pair", ONE, NIL)]),
                (WIDE_PAIRS, [NIL, ("*",), ("pair", ("*",), "_"), ("pair", "_", ("*",)), ("pair", "x", "x"),
                              ("pair", ("pair", "_", "_"), "_"), ("pair", "_", ("pair", "_", "_"))])):
            self.assertIsNone(self.check_missed(world, forms, plain.trees_up_to(world, 300)))
            for at in range(len(forms)):
                self.assertIsNotNone(self.check_missed(world, forms[:at] + forms[at + 1:], []), forms[at])
            self.assertEqual(reached(world, [*forms, "x", forms[0], ("y"), *forms])[len(forms):],
                             [None] * (3 + len(forms)))
            self.assertTrue(same(world, forms, ["_"]))
            self.assertFalse(same(world, forms[1:], ["_"]))

    def test_places_of_three_signs_that_can_not_all_differ(self):
        """Three parts that are a or b each can't be different ones; three that may be a further leaf, too, can."""
        for world, leaves in ((World([("a", 0), ("b", 0), ("f", 3)]), False), (WIDE_FULL, True)):
            nested = [("f", *["_"] * at, ("f", "_", "_", "_"), *["_"] * (2 - at)) for at in range(3)]
            doubles = [("f", "x", "x", "_"), ("f", "x", "_", "x"), ("f", "_", "x", "x")]
            self.assertIs(self.check_missed(world, [A, B, *nested, *doubles], []) is None, not leaves)
            told = self.check_reached(world, [*nested, *doubles, ("f", "_", "_", "_")], [])
            self.assertIs(told[-1] is None, not leaves)
            self.assertIsNotNone(self.check_missed(world, [A, B, *nested, *doubles[1:]], []))

    def test_further_leaves_differ_from_one_another(self):
        for forms in ([("pair", "x", "x")], [("pair", ("*",), ("*",))], [("pair", "x", "x"), ("pair", NIL, "_")]):
            self.assertIsNotNone(self.check_reached(WIDE_PAIRS, [*forms, ("pair", "_", "_")], [])[-1])
        told = self.check_reached(WIDE_PAIRS, [("pair", "x", "x"), ("pair", ("*",), ("*",))], [])[-1]
        self.assertNotEqual(told[1], told[2])
        self.assertEqual([told[1][0], told[2][0]], ["*", "*"])
        only_leaves = [NIL, ("pair", "_", "_")]
        self.assertEqual(missed(WIDE_PAIRS, only_leaves)[0], "*")
        self.assertIsNone(missed(WIDE_PAIRS, [*only_leaves, ("*",)]))

    def test_letters_of_different_forms_have_nothing_to_do_with_one_another(self):
        self.assertTrue(same(PAIRS, [("pair", "x", "x")], [("pair", "y", "y")]))
        self.assertTrue(same(PAIRS, [("pair", "x", "y"), NIL], [NIL, ("pair", "y", "x")]))
        self.assertEqual(reached(PAIRS, [("pair", "x", "x"), ("pair", "y", "y")])[1:], [None])
        self.assertTrue(same(PAIRS, [("pair", "nil", "nil")], [("pair", "one", "one")]))

    def test_letters_that_stand_twice_within_others(self):
        wide, narrow = ("pair", ("pair", "x", "y"), "x"), ("pair", ("pair", "x", "x"), "x")
        self.assertEqual(reached(PAIRS, [wide, narrow])[1], None)
        self.assertIsNotNone(self.check_reached(PAIRS, [narrow, wide], [])[1])
        twice = ("pair", ("pair", "y", "z"), ("pair", "y", "z"))
        self.assertEqual(reached(PAIRS, [("pair", "x", "x"), twice])[1], None)
        self.assertIsNone(reached(PAIRS, [("pair", "x", ("pair", "x", "_")), ("pair", NIL, ("pair", NIL, "y"))])[1])
        self.assertIsNotNone(self.check_reached(PAIRS, [("pair", "x", ("pair", "x", "x")), ("pair", "x", "x")], [])[1])


    def test_letters_that_are_told_in_one_place_and_asked_for_in_another(self):
        world = World([("a", 0), ("b", 0), ("c", 0), ("f", 3)])
        for leaf in (A, B):
            told = rest(world, [("f", A, ("c",), leaf), ("f", B, ("c",), leaf)])
            self.assertEqual(reached(world, [*told, ("f", "x", "y", "x")])[-1], ("f", leaf, ("c",), leaf))
            told += [("f", "x", "x", "_"), ("f", "y", "_", "x")]
            self.assertIsNone(reached(world, [*told, ("f", "x", "y", "x")])[-1])


class ToldLists(Lists):
    def test_told_lists_and_what_they_were_told_of(self):
        for seed, world in enumerate(WORLDS):
            forms = Forms(world, seed + 20)
            for _ in range(10):
                passed = forms.plain_list()
                told = rest(world, passed)
                if len(told) > 120:
                    continue
                self.assertIsNone(missed(world, passed + told))
                self.assertIsNone(missed(world, told + passed))
                self.assertEqual(reached(world, passed + told + ["x"])[-1], None)
                self.assertNotIn(None, reached(world, passed + told)[len(passed):])
                self.assertTrue(same(world, rest(world, told), passed))
                self.assertTrue(same(world, [form for part in parted(world, passed) for form in part], passed))
                self.assertIs(same(world, told, passed), False)

    def test_told_lists_with_other_lists(self):
        for seed, world in enumerate(TIGHT_WORLDS):
            forms = Forms(world, seed + 40)
            trees = plain.trees_up_to(world, 60)
            for _ in range(12):
                one, other = rest(world, forms.plain_list(4, 8)), rest(world, forms.plain_list(4, 8))
                if len(one) + len(other) < 60:
                    doubles = forms.list(7, 16, "xy", 0.8)
                    self.check(world, one + other + doubles, doubles + other, trees)
                    self.check(world, doubles + one, other + doubles, trees)

    def test_great_told_lists(self):
        first, second = [at_place(path, A) for path in PATHS[:4]], [at_place(path, B) for path in PATHS[4:7]]
        one, other = rest(WIDE_FULL, first), rest(WIDE_FULL, second)
        self.assertGreater(len(one) + len(other), 2500)
        doubles = [("f", "x", "x", "_"), ("f", ("g", "x"), "_", ("g", "x")), ("f", ("f", "x", "y", "x"), "y", "_"),
                   ("f", "_", ("h", "x", "y"), ("h", "y", "x")), ("h", "x", ("g", "x"))]
        self.assertIsNone(missed(WIDE_FULL, one + first + other))
        told = missed(WIDE_FULL, one + other + doubles)
        self.assertTrue(fits_any(first, told) and fits_any(second, told) and not fits_any(doubles, told))
        self.assertTrue(same(WIDE_FULL, rest(WIDE_FULL, one), first))
        self.assertFalse(same(WIDE_FULL, one, other))
        self.assertTrue(same(WIDE_FULL, one + doubles, doubles[::-1] + one[::-1]))
        told = unlike_tree(WIDE_FULL, one + doubles, one)
        self.assertTrue(fits_any(doubles, told) and fits_any(first, told))
        trees = reached(WIDE_FULL, doubles + one + first + doubles)
        for form, tree in zip((doubles + one)[::9], trees[::9]):
            self.assertTrue(tree is None or plain.fits(form, tree))
        self.assertEqual(trees[-len(doubles):], [None] * len(doubles))
        self.assertNotIn(None, trees[len(doubles) + len(one):-len(doubles)])

    def test_forms_that_can_not_all_differ_over_great_told_lists(self):
        """Nine leaves that are one of three each: of four of them two are the same."""
        world = World([("a", 0), ("b", 0), ("c", 0), ("f", 3)])
        f = ("f", "_", "_", "_")

        def with_both(places, leaf):
            parts = [["_", "_", "_"] for _ in range(3)]
            for at, below in places:
                parts[at][below] = leaf
            return ("f", *[("f", *part) for part in parts])

        deeper = [with_both([place], f) for place in itertools.product(range(3), repeat=2)]
        told = rest(world, [("f", f, f, f)]) + deeper
        places = [(0, 0), (1, 1), (2, 2), (2, 0)]
        pairs = [with_both(pair, "x") for pair in itertools.combinations(places, 2)]
        self.assertIsNone(missed(world, told + pairs))
        self.assertIsNotNone(self.check_missed(world, told + pairs[1:], []))

    def test_told_trees_as_forms(self):
        tree = plain.chain(250)
        told = rest(CHAIN, [tree])
        self.assertEqual(missed(CHAIN, told), tree)
        self.assertIsNone(missed(CHAIN, [*told, tree]))
        self.assertEqual(reached(CHAIN, [("next", "_"), tree, ("zero",)])[1], None)
        self.assertTrue(same(CHAIN, told + [tree], ["x"]))
        self.assertEqual(unlike_tree(CHAIN, told, ["x"]), tree)


class Wrong(unittest.TestCase):
    def raises(self, position, function, *passed):
        kept = [list(forms) for forms in passed[1:]]
        with self.assertRaises(BadForms) as caught:
            function(*passed)
        self.assertIs(type(caught.exception), BadForms)
        self.assertEqual(caught.exception.position, position)
        for forms, entries in zip(passed[1:], kept):
            self.assertEqual(len(forms), len(entries))
            self.assertTrue(all(one is other for one, other in zip(forms, entries)))

    def test_the_first_entry_that_is_not_a_form(self):
        double = ("pair", "x", "x")
        for value in plain.anything():
            for position, forms in ((0, [value]), (0, [value, None]), (2, ["x", double, value, value, "y"])):
                self.raises(position, missed, PAIRS, forms)
                self.raises(position, reached, PAIRS, forms)
                for function in (unlike_tree, same):
                    self.raises(position, function, PAIRS, forms, ["x"])
                    self.raises(position, function, PAIRS, ["x", double], forms)

    def test_the_first_list_ahead_of_the_second_one(self):
        for function in (unlike_tree, same):
            self.raises(2, function, PAIRS, ["x", "y", None], [None, "x"])
            self.raises(1, function, PAIRS, ["x", ("*",)], [None])
            self.raises(0, function, PAIRS, [], [("pair", "x")])
            self.raises(0, function, WIDE_PAIRS, [("*", 0)], [None])

    def test_forms_with_parts_changed(self):
        for seed, world in enumerate(TIGHT_WORLDS):
            forms = Forms(world, seed)
            for _ in range(6):
                for value in plain.changed(forms.form(4, names="xy", eager=0.9)[0]):
                    passed = ["x", value, "y"]
                    if plain.is_form(world, value):
                        self.assertIsNone(missed(world, passed))
                    else:
                        self.raises(1, missed, world, passed)
                        self.raises(1, reached, world, passed)
                        self.raises(1, same, world, ["x"], passed)

    def test_told_lists_with_entries_put_in(self):
        told = rest(PAIRS, [("pair", NIL, ("pair", "_", ONE))])
        for value in [*plain.anything(), told]:
            for at in range(len(told)):
                self.raises(at, missed, PAIRS, [*told[:at], value, *told[at:]])


if __name__ == "__main__":
    unittest.main()
