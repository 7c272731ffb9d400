"""[4]: fit and become, each against a plain reading over all small trees."""

import copy
import itertools
import unittest

from butthese import matching
from butthese.errors import BadForm, BadTree, BadValues
from butthese.matching import become, fit
from butthese.worlds import World
import plain
from plain import CHAIN, FULL, PAIRS, POINT, WIDE, WIDE_PAIRS, WORLDS, Forms

NIL, ONE = ("nil",), ("one",)


def deep(many, bottom):
    for _ in range(many):
        bottom = ("pair", bottom, ("nil",))
    return bottom


class Examples(unittest.TestCase):
    def test_examples_of_the_document(self):
        self.assertEqual([fit(PAIRS, ("pair", "x", "_"), ("pair", NIL, ONE)),
                          fit(PAIRS, ("pair", "x", "x"), ("pair", NIL, ONE)), fit(WIDE, ("*",), ("*", 7))],
                         [{"x": NIL}, None, {}])
        self.assertEqual(become(PAIRS, ("pair", "x", ("pair", "x", "y")), {"x": NIL, "y": ONE}),
                         ("pair", NIL, ("pair", NIL, ONE)))

    def test_functions_stand_in_the_file(self):
        for function in (fit, become):
            self.assertEqual(function.__module__, "butthese.matching")
            self.assertIs(getattr(matching, function.__name__), function)


class Fit(unittest.TestCase):
    def check(self, world, form, tree):
        told = fit(world, form, tree)
        self.assertEqual([] if told is None else [told], plain.fitting(form, tree))
        if told is not None:
            self.assertEqual(sorted(told), sorted(set(plain.letters(form))))

    def test_random_forms_over_all_small_trees(self):
        for seed, world in enumerate(WORLDS):
            trees = plain.small_trees(world, 5)[:150]
            forms = Forms(world, seed)
            for _ in range(60):
                form, _ = forms.form(4, names="xy")
                for tree in trees:
                    self.check(world, form, tree)

    def test_all_small_forms_over_all_small_trees(self):
        for world in (PAIRS, WIDE_PAIRS):
            leaves = ["_", "x", "y", NIL] + [("*",)] * world.more
            forms = leaves + [("pair", *parts) for parts in itertools.product(leaves, repeat=2)]
            forms += [("pair", *parts) for form in forms[-9:] for parts in itertools.permutations((form, "x"))]
            for form in forms:
                for tree in plain.small_trees(world, 5):
                    self.check(world, form, tree)

    def test_trees_made_of_forms_are_fitted(self):
        for seed, world in enumerate(WORLDS):
            trees = plain.small_trees(world, 4)
            forms = Forms(world, seed + 50)
            for _ in range(60):
                form, _ = forms.form(12, names="xyz", eager=0.9)
                if "_" in plain.text(form) or "*" in plain.text(form):
                    continue
                names = sorted(set(plain.letters(form)))
                values = {name: forms.random.choice(trees) for name in names}
                tree = become(world, form, values)
                self.assertEqual(fit(world, form, tree), values)
                self.assertTrue(plain.becomes(form, tree, values))

    def test_further_leaves(self):
        tree = ("pair", ("*", 1), ("*", 2))
        self.assertEqual(fit(WIDE_PAIRS, ("pair", ("*",), ("*",)), tree), {})
        self.assertEqual(fit(WIDE_PAIRS, ("pair", "x", ("*",)), tree), {"x": ("*", 1)})
        self.assertIsNone(fit(WIDE_PAIRS, ("pair", "x", "x"), tree))
        self.assertEqual(fit(WIDE_PAIRS, ("pair", "x", "x"), ("pair", ("*", 1), ("*", 1))), {"x": ("*", 1)})
        self.assertIsNone(fit(WIDE_PAIRS, ("*",), NIL))
        self.assertIsNone(fit(WIDE_PAIRS, NIL, ("*", 0)))
        self.assertIsNone(fit(WIDE_PAIRS, ("*",), tree))

    def test_letters_and_signs_of_one_name(self):
        self.assertEqual(fit(PAIRS, ("pair", "nil", NIL), ("pair", ONE, NIL)), {"nil": ONE})
        self.assertIsNone(fit(PAIRS, ("pair", "nil", NIL), ("pair", NIL, ONE)))

    def test_forms_and_trees_of_any_depth(self):
        tree = deep(5000, ONE)
        self.assertEqual(fit(PAIRS, deep(5000, "x"), tree), {"x": ONE})
        self.assertEqual(fit(PAIRS, tree, tree), {})
        self.assertIsNone(fit(PAIRS, deep(5000, NIL), tree))
        self.assertEqual(list(fit(PAIRS, ("pair", "x", "x"), ("pair", tree, deep(5000, ONE)))), ["x"])
        self.assertIsNone(fit(PAIRS, ("pair", "x", "x"), ("pair", tree, deep(5000, NIL))))
        self.assertIsNone(fit(PAIRS, ("pair", "x", "x"), ("pair", tree, deep(4999, ONE))))

    def test_bad_forms_ahead_of_bad_trees(self):
        for value in [*plain.anything(), ("pair", "x"), ("*",), NIL + NIL]:
            for tree in (NIL, "x", value):
                with self.assertRaises(BadForm) as caught:
                    fit(PAIRS, value, tree)
                self.assertIs(caught.exception.value, value)

    def test_bad_trees(self):
        for value in [*plain.anything(), "x", "_", ("pair", "x", NIL), ("*", 0)]:
            for form in ("x", ("pair", "x", "x"), NIL):
                with self.assertRaises(BadTree) as caught:
                    fit(PAIRS, form, value)
                self.assertIs(caught.exception.value, value)

    def test_changed_forms_and_trees(self):
        for seed, world in enumerate(WORLDS):
            forms = Forms(world, seed)
            tree = plain.small_trees(world, 4)[-1]
            for _ in range(20):
                for value in plain.changed(forms.form(5)[0]):
                    if not plain.is_form(world, value):
                        self.assertRaises(BadForm, fit, world, value, tree)
                    else:
                        fit(world, value, tree)
            for value in plain.changed(tree):
                if not plain.is_tree(world, value):
                    self.assertRaises(BadTree, fit, world, "x", value)
                else:
                    self.assertEqual(fit(world, "x", value), {"x": value})

    def test_dicts_are_new(self):
        first, second = (fit(PAIRS, ("pair", "x", "y"), ("pair", NIL, ONE)) for _ in range(2))
        first["x"] = None
        self.assertEqual(second, {"x": NIL, "y": ONE})
        self.assertEqual(fit(PAIRS, ("pair", "x", "y"), ("pair", NIL, ONE)), second)

    def test_arguments_by_their_names(self):
        self.assertEqual(fit(tree=NIL, form="x", world=PAIRS), {"x": NIL})


class Become(unittest.TestCase):
    def test_random_forms_with_small_trees(self):
        for seed, world in enumerate(WORLDS):
            trees = plain.small_trees(world, 3)
            forms = Forms(world, seed)
            for _ in range(200):
                form, _ = forms.form(12, names="xyz", eager=0.8)
                values = {name: forms.random.choice(trees) for name in (*"xyz", "spare")}
                if "_" in plain.text(form) or "*" in plain.text(form):
                    with self.assertRaises(BadForm) as caught:
                        become(world, form, values)
                    self.assertIs(caught.exception.value, form)
                    continue
                tree = become(world, form, values)
                self.assertTrue(plain.is_tree(world, tree))
                self.assertTrue(plain.becomes(form, tree, values))

    def test_forms_without_letters(self):
        self.assertEqual(become(PAIRS, ("pair", NIL, ONE), {}), ("pair", NIL, ONE))
        self.assertEqual(become(PAIRS, "x", {"x": NIL, "y": ONE}), NIL)
        self.assertEqual(become(WIDE, "x", {"x": ("*", 4)}), ("*", 4))

    def test_parts_keep_their_sequence(self):
        form = ("f", "x", ("k", "y", "z", ("h", "x", "y")), ("h", "z", "x"))
        values = {"x": ("a",), "y": ("b",), "z": ("g", ("a",))}
        self.assertEqual(become(FULL, form, values), (
            "f", ("a",), ("k", ("b",), ("g", ("a",)), ("h", ("a",), ("b",))), ("h", ("g", ("a",)), ("a",))))

    def test_forms_and_trees_of_any_depth(self):
        tree = become(PAIRS, deep(4000, "x"), {"x": deep(4000, ONE)})
        self.assertEqual(PAIRS.size(tree), 16001)
        self.assertEqual(fit(PAIRS, deep(8000, "x"), tree), {"x": ONE})
        tree = ("zero",)
        for _ in range(500):
            tree = become(CHAIN, ("next", ("next", ("next", ("next", "x")))), {"x": tree})
        self.assertEqual(CHAIN.size(tree), 2001)

    def test_bad_forms_ahead_of_bad_values(self):
        for value in [*plain.anything(), "_", ("pair", "x", "_"), ("pair", ("pair", "_", NIL), NIL), ("*",),
                      ("pair", ("*",), NIL), ("pair", "x"), ("*", 0), ("pair", ("*", 0), NIL)]:
            for values in ({"x": NIL}, {}, None, value):
                for world in (PAIRS, WIDE_PAIRS):
                    with self.assertRaises(BadForm) as caught:
                        become(world, value, values)
                    self.assertIs(caught.exception.value, value)

    def test_bad_values(self):
        wrong = [value for value in plain.anything() if value not in ({}, {"x": NIL})]
        wrong += [{"x": NIL, "y": value} for value in plain.anything()]
        wrong += [{"x": NIL, 1: NIL}, {"x": NIL, "_": NIL}, {"x": NIL, "X": NIL}, {"x": NIL, "abcdefghi": NIL},
                  {"x": NIL, "": NIL}, {"x": NIL, ("x",): NIL}, {"x": NIL, None: NIL}, {"x": NIL, "a\n": NIL},
                  {"x": "x"}, {"x": ["nil"]}, {"x": ("pair", NIL)}, {"x": NIL, "y": "_"}, [("x", NIL)], ("x", NIL)]
        for form in ("x", NIL, ("pair", "x", "x")):
            for value in wrong:
                with self.assertRaises(BadValues) as caught:
                    become(PAIRS, form, value)
                self.assertIs(caught.exception.value, value)
        with self.assertRaises(BadValues):
            become(PAIRS, NIL, {"x": ("*", 0)})
        self.assertEqual(become(WIDE_PAIRS, NIL, {"x": ("*", 0)}), NIL)

    def test_values_that_lack_a_letter(self):
        for form, values in (("x", {}), ("x", {"y": NIL}), (("pair", "x", "y"), {"x": NIL}),
                             (("pair", NIL, ("pair", "z", ONE)), {"x": NIL, "y": ONE})):
            with self.assertRaises(BadValues) as caught:
                become(PAIRS, form, values)
            self.assertIs(caught.exception.value, values)

    def test_values_stay_as_they_were(self):
        values = {"x": ("pair", NIL, ONE), "y": ONE}
        kept = copy.deepcopy(values)
        for _ in range(2):
            self.assertEqual(become(PAIRS, ("pair", "x", "x"), values), ("pair", kept["x"], kept["x"]))
            self.assertEqual(values, kept)
        wrong = {"x": ["nil"]}
        self.assertRaises(BadValues, become, PAIRS, "x", wrong)
        self.assertEqual(wrong, {"x": ["nil"]})

    def test_arguments_by_their_names(self):
        self.assertEqual(become(values={"x": ("nil",)}, form="x", world=POINT), ("nil",))

    def test_world_of_one_sign(self):
        self.assertEqual(become(World([("a", 0)]), ("a",), {}), ("a",))


if __name__ == "__main__":
    unittest.main()
