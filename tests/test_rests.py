"""[5] and [6]: rest, shared and parted, over all small trees and beyond them."""

import copy
import itertools
import unittest

from butthese import rests
from butthese.errors import BadForm
from butthese.rests import parted, rest, shared
from butthese.worlds import World
import plain
from plain import (CHAIN, FULL, NIL, ONE, PAIRS, PATHS, POINT, THREE, WIDE, WIDE_FULL, WIDE_PAIRS, WORLDS, Forms,
                   at_place)
from wrong import WrongPlainLists

MOST_SIGNS_OF_TEXTS = 800


class Rests(unittest.TestCase):
    """What is asked of rest and parted alike."""

    def check_told(self, world, told):
        """What is told are plain forms, no two of which share a tree."""
        self.assertIs(type(told), list)
        for form in told:
            self.assertTrue(plain.is_plain(world, form), form)
        for one, other in itertools.combinations(told, 2):
            self.assertTrue(plain.apart(one, other), (one, other))

    def check(self, world, forms):
        """Check rest and parted of a list as a whole, by shares: for trees of any size."""
        kept = copy.deepcopy(forms)
        missed, parts = rest(world, forms), parted(world, forms)
        self.assertEqual(forms, kept)
        self.assertEqual(len(parts), len(forms))
        self.check_told(world, [form for told in [*parts, missed] for form in told])
        for position, told in enumerate(parts):
            self.assertIs(type(told), list)
            for form in told:
                self.assertTrue(plain.within(form, forms[position]) or world == POINT)
                self.assertTrue(all(plain.apart(form, ahead) for ahead in forms[:position]))
        for form in missed:
            self.assertTrue(all(plain.apart(form, other) for other in forms))
        total = sum(plain.share(world, form) for told in [*parts, missed] for form in told)
        self.assertEqual(total, 1)
        self.check_bounds(world, forms, [form for told in [*parts, missed] for form in told])
        return missed, parts

    def check_bounds(self, world, passed, told):
        deepest = max(map(plain.depth, passed), default=0)
        for form in told:
            self.assertLessEqual(plain.depth(form), deepest + 4)
            if sum(map(plain.signs_in, passed)) <= 48:
                self.assertLessEqual(len(plain.text(form)), MOST_SIGNS_OF_TEXTS)

    def check_trees(self, world, forms, missed, parts, trees):
        """Check them tree by tree, as [5] says it."""
        for tree in trees:
            fitting = [position for position, form in enumerate(forms) if plain.plain_fits(form, tree)]
            told = [sum(plain.plain_fits(form, tree) for form in part) for part in [*parts, missed]]
            due = [0] * (len(forms) + 1)
            due[fitting[0] if fitting else len(forms)] = 1
            self.assertEqual(told, due, (tree, forms))


class Examples(Rests):
    def test_examples_of_the_document(self):
        world = World([("nil", 0), ("one", 0), ("pair", 2)])
        wide = World([("nil", 0)], more=True)
        self.assertEqual([rest(world, [("pair", "x", "y"), ("nil",)]), rest(world, ["x"]), rest(wide, [("nil",)])],
                         [[("one",)], [], [("*",)]])
        self.assertEqual([shared(world, ("pair", ("nil",), "x"), ("pair", "_", ("one",))),
                          shared(world, ("nil",), ("one",)), parted(world, [("nil",), ("nil",)])[1]],
                         [("pair", ("nil",), ("one",)), None, []])

    def test_functions_stand_in_the_file(self):
        for function in (rest, shared, parted):
            self.assertEqual(function.__module__, "butthese.rests")
            self.assertIs(getattr(rests, function.__name__), function)


class Lists(Rests):
    def test_random_lists_over_all_small_trees(self):
        for seed, world in enumerate(WORLDS):
            forms = Forms(world, seed)
            trees = plain.small_trees(world, 6 if world in (PAIRS, WIDE_PAIRS, CHAIN) else 4)[:300]
            for _ in range(40):
                passed = forms.plain_list()
                missed, parts = self.check(world, passed)
                made = [tree for form in passed for tree in plain.fillings(world, form)]
                made += [tree for form in missed[:20] for tree in plain.fillings(world, form)]
                self.check_trees(world, passed, missed, parts, trees + made)

    def test_long_and_deep_lists(self):
        for seed, world in enumerate(WORLDS):
            forms = Forms(world, seed + 100)
            for most, signs in ((6, 12), (7, 16), (12, 24)) * 3:
                passed = [form for form in forms.plain_list(most, signs, eager=0.9) if type(form) is tuple]
                if len(rest(world, passed)) < 400:
                    self.check(world, passed)

    def test_lists_with_leaves_of_all_kinds(self):
        for world in WORLDS:
            leaves = ["_", "x", *[(name,) for name, many in world.signs if not many]] + [("*",)] * world.more
            for many in range(4):
                for passed in itertools.product(leaves, repeat=many):
                    missed, parts = self.check(world, list(passed))
                    self.check_trees(world, passed, missed, parts, plain.small_trees(world, 4)[:40])

    def test_empty_list(self):
        for world in WORLDS:
            missed, parts = self.check(world, [])
            self.assertEqual(parts, [])
            self.check_trees(world, [], missed, parts, plain.small_trees(world, 4))

    def test_lists_that_miss_nothing(self):
        for world in WORLDS:
            heads = [(name, *["_"] * many) for name, many in world.signs]
            for passed in (["x"], ["_"], heads + ["_"], heads + [("*",)] * world.more):
                self.assertEqual(rest(world, passed), [])
            if world.more:
                self.assertEqual(rest(world, heads), [("*",)])

    def test_forms_that_are_never_first(self):
        forms = [("pair", NIL, "_"), ("pair", "_", NIL), ("pair", NIL, NIL), ("pair", "x", "y"), ("pair", ONE, ONE)]
        parts = parted(PAIRS, forms)
        self.assertEqual([part == [] for part in parts], [False, False, True, False, True])

    def test_rest_of_one_form_as_the_document_tells_it(self):
        form = ("h", ("g", ("a",)), ("b",))
        told = rest(WIDE_FULL, [form])
        due = [(name, *["_"] * many) for name, many in WIDE_FULL.signs if name != "h"] + [("*",)]
        due += [("h", other, "_") for other in rest(WIDE_FULL, [("g", ("a",))])]
        due += [("h", ("g", ("a",)), other) for other in rest(WIDE_FULL, [("b",)])]
        self.assertEqual(sum(plain.share(WIDE_FULL, one) for one in told),
                         sum(plain.share(WIDE_FULL, one) for one in due))
        for tree in [tree for one in [*due, form] for tree in plain.fillings(WIDE_FULL, one)]:
            self.assertEqual(any(plain.plain_fits(one, tree) for one in told),
                             any(plain.plain_fits(one, tree) for one in due))


class ToldLists(Rests):
    def test_rest_of_a_rest(self):
        for seed, world in enumerate(WORLDS):
            forms = Forms(world, seed + 200)
            for _ in range(12):
                passed = forms.plain_list()
                told = rest(world, passed)
                if len(told) > 150:
                    continue
                again, parts = self.check(world, told)
                self.assertEqual(rest(world, passed + told), [])
                for one, other in itertools.product(again, told):
                    self.assertTrue(plain.apart(one, other))
                for form, part in zip(told, parts):
                    self.assertEqual(sum(plain.share(world, one) for one in part), plain.share(world, form))

    def test_lists_put_together_of_told_ones(self):
        for seed, world in enumerate(WORLDS):
            forms = Forms(world, seed + 300)
            for _ in range(8):
                lists = [forms.plain_list(4, 8) for _ in range(3)]
                passed = rest(world, lists[0]) + lists[1] + rest(world, lists[2])
                passed += [form for part in parted(world, lists[1] + lists[2]) for form in part]
                if len(passed) < 120:
                    missed, parts = self.check(world, passed)
                    trees = [tree for form in [*passed[:20], *missed[:20]] for tree in plain.fillings(world, form)]
                    self.check_trees(world, passed, missed, parts, trees)

    def test_great_told_lists(self):
        first = [at_place(path, ("a",)) for path in PATHS[:4]]
        second = [at_place(path, ("b",)) for path in PATHS[4:7]]
        one, other = rest(WIDE_FULL, first), rest(WIDE_FULL, second)
        self.assertGreater(len(one) + len(other), 2500)
        self.assertEqual(self.shares(rest(WIDE_FULL, one)), 1 - self.shares(one))
        self.assertEqual(rest(WIDE_FULL, one + other + first), [])
        self.assertEqual(rest(WIDE_FULL, first + one[::-1]), [])
        parts = parted(WIDE_FULL, one + first)
        self.assertEqual([len(part) for part in parts[:len(one)]], [1] * len(one))
        self.assertEqual(sum(self.shares(part) for part in parts), 1)
        in_both = self.shares(rest(WIDE_FULL, first + second))
        in_one = self.shares(one) + self.shares(other) - in_both
        self.assertEqual(self.shares(rest(WIDE_FULL, one + other)), 1 - in_one)

    def shares(self, forms):
        return sum(plain.share(WIDE_FULL, form) for form in forms)

    def test_greatest_lists(self):
        forms = [at_place(path, ("a",)) for path in PATHS[:5]]
        parts = parted(WIDE_FULL, forms)
        self.assertEqual(self.shares(rest(WIDE_FULL, forms)) + sum(self.shares(part) for part in parts), 1)

    def test_told_trees_as_forms(self):
        tree = plain.chain(400)
        told = rest(CHAIN, [tree])
        self.assertEqual(len(told), 401)
        self.assertEqual(sorted(map(CHAIN.is_plain, told)), [True] * 401)
        self.assertEqual(parted(CHAIN, [tree, tree])[1], [])
        self.assertEqual([CHAIN.size(form) for form in rest(CHAIN, told)], [401])
        self.assertEqual(CHAIN.size(shared(CHAIN, tree, "x")), 401)


class Shared(Rests):
    def check_shared(self, world, first, second, trees):
        told = shared(world, first, second)
        self.assertIs(told is None, plain.apart(first, second))
        if told is not None:
            self.assertTrue(plain.is_plain(world, told))
            self.assertTrue(plain.within(told, first) and plain.within(told, second))
            self.check_bounds(world, [first, second], [told])
        for tree in trees:
            due = plain.plain_fits(first, tree) and plain.plain_fits(second, tree)
            self.assertIs(told is not None and plain.plain_fits(told, tree), due)

    def test_random_forms(self):
        for seed, world in enumerate(WORLDS):
            forms = Forms(world, seed)
            trees = plain.small_trees(world, 5)[:60]
            for _ in range(150):
                first, second = forms.plain(12, eager=0.6)[0], forms.plain(12, eager=0.6)[0]
                self.check_shared(world, first, second, trees + plain.fillings(world, first))

    def test_forms_that_overlap(self):
        for first, second in ((("pair", "x", NIL), ("pair", ONE, "y")), ("x", ("pair", "x", "y")), ("x", "x"),
                              (("pair", ("pair", "x", NIL), "_"), ("pair", ("pair", ONE, "_"), "z")),
                              (("pair", "_", "y"), "z"), (NIL, "_"), (NIL, NIL)):
            self.check_shared(PAIRS, first, second, plain.small_trees(PAIRS, 7))
            self.check_shared(PAIRS, second, first, plain.small_trees(PAIRS, 7))

    def test_letters_of_one_name_have_nothing_to_do_with_one_another(self):
        self.check_shared(PAIRS, ("pair", "x", NIL), ("pair", ONE, "x"), plain.small_trees(PAIRS, 5))
        self.check_shared(PAIRS, ("pair", "x", "y"), ("pair", "y", "x"), plain.small_trees(PAIRS, 5))

    def test_further_leaves(self):
        self.assertEqual(shared(WIDE, ("*",), "x"), ("*",))
        self.assertIsNone(shared(WIDE, ("*",), NIL))
        self.assertEqual(shared(WIDE_PAIRS, ("pair", ("*",), "_"), ("pair", "x", NIL)), ("pair", ("*",), NIL))

    def test_texts_stay_short(self):
        world, full = plain.LONG_NAMES, plain.great_forms()
        great, flat = full(2), full(0)
        self.assertGreater(len(plain.text(full(3))), MOST_SIGNS_OF_TEXTS)
        for first, second in ((great, "x"), ("x", great), (great, flat), (flat, full(2)), (great, full(2))):
            told = shared(world, first, second)
            self.check_bounds(world, [first, second], [told])
        self.check(world, [great, full(2), flat])
        self.check(world, [("abcdefgh", great, "_", full(1)), full(1)])
        deepest = ("abcdefgh", full(2), full(2), full(2))
        self.check(world, [deepest])
        self.check_bounds(world, [deepest, "x"], [shared(world, deepest, "x")])

    def test_bad_forms_the_first_argument_first(self):
        wrong = [*plain.anything(), ("pair", "x", "x"), ("pair", "x", ("pair", "_", "x")), ("*",), ("pair", "x")]
        for value in wrong:
            for second in ("x", None, value):
                with self.assertRaises(BadForm) as caught:
                    shared(PAIRS, value, second)
                self.assertIs(caught.exception.value, value)
            with self.assertRaises(BadForm) as caught:
                shared(PAIRS, NIL, value)
            self.assertIs(caught.exception.value, value)

    def test_arguments_by_their_names(self):
        self.assertEqual(shared(second=NIL, first="x", world=PAIRS), NIL)


class Wrong(WrongPlainLists, unittest.TestCase):
    calls = (rest, parted)


class General(unittest.TestCase):
    def test_lists_are_new(self):
        forms = [("pair", NIL, "_"), ("pair", "_", ONE), NIL, ("pair", NIL, "x")]
        for function in (rest, parted):
            first, second = function(PAIRS, forms), function(PAIRS, forms)
            self.assertEqual(first, second)
            self.assertIsNot(first, second)
            first.append("x")
            first[0:1] = []
            self.assertEqual(function(PAIRS, forms), second)
        parts = parted(PAIRS, forms + forms)
        self.assertEqual(len({id(part) for part in parts}), len(parts))
        parts[3].append("x")
        self.assertEqual(parted(PAIRS, forms + forms)[3:5], [[], []])
        self.assertEqual(parts[7], [])

    def test_equal_results_for_the_very_same_arguments(self):
        for seed, world in enumerate(WORLDS):
            forms = Forms(world, seed).plain_list()
            self.assertEqual(rest(world, forms), rest(forms=forms, world=world))
            self.assertEqual(parted(world, forms), parted(forms=forms, world=world))

    def test_finite_worlds(self):
        self.assertEqual(rest(POINT, [NIL]), [])
        self.assertEqual(sorted(rest(THREE, [("green",)])), [("blue",), ("red",)])
        self.assertEqual(parted(THREE, [("green",), "x", ("red",)])[2], [])
        self.assertEqual(len(parted(THREE, [("green",), "x", ("red",)])[1]), 2)

    def test_world_of_six_signs(self):
        told = rest(FULL, [("f", ("a",), "_", ("g", "x"))])
        self.assertEqual(sum(plain.share(FULL, form) for form in told),
                         1 - plain.share(FULL, ("f", ("a",), ("g", "x"))))


if __name__ == "__main__":
    unittest.main()
