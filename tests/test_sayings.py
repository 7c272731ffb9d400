"""[7] and stage 8: conditions, the letters of sayings, whether they hold, and what stands against a condition."""

import copy
import itertools
import unittest

from butthese import sayings
from butthese.errors import BadCondition, BadValues
from butthese.lots import Lot
from butthese.sayings import against, holds, is_condition, letters_of
from butthese.worlds import World
import plain
from plain import FULL, NIL, ONE, PAIRS, POINT, TIGHT_WORLDS, WIDE, WIDE_FULL, WIDE_PAIRS, Forms

WORDS = ("alike", "unlike", "fits", "misses")


def deep(many, bottom):
    for _ in range(many):
        bottom = ("pair", bottom, ("nil",))
    return bottom


class Examples(unittest.TestCase):
    def test_examples_of_the_document(self):
        world = World([("nil", 0), ("one", 0), ("pair", 2)])
        saying = [("unlike", "x", "y"), ("fits", "x", ("pair", "y", "y"))]
        self.assertEqual([letters_of(saying), holds(world, saying, {"x": ("pair", NIL, NIL), "y": ONE}),
                          holds(world, saying[1:], {"x": NIL})], [["x", "y"], True, False])
        self.assertEqual([is_condition(world, ("misses", "x", ("pair", "_", "u"))),
                          is_condition(world, ("alike", "x", "_")), against(("fits", "x", NIL))],
                         [True, False, ("misses", "x", NIL)])

    def test_functions_stand_in_the_file(self):
        for function in (is_condition, letters_of, holds, against):
            self.assertEqual(function.__module__, "butthese.sayings")
            self.assertIs(getattr(sayings, function.__name__), function)

    def test_arguments_by_their_names(self):
        condition = ("alike", "x", NIL)
        self.assertTrue(is_condition(value=condition, world=PAIRS))
        self.assertEqual(letters_of(saying=[condition]), ["x"])
        self.assertTrue(holds(values={"x": NIL}, saying=[condition], world=PAIRS))
        self.assertEqual(against(condition=condition), ("unlike", "x", NIL))


class IsCondition(unittest.TestCase):
    def test_any_value_is_none(self):
        for value in [*plain.anything(), NIL, ("pair", NIL, NIL), "x", "alike", WORDS, Lot(PAIRS, [])]:
            self.assertIs(is_condition(PAIRS, value), False)
            for word in WORDS:
                self.assertIs(is_condition(PAIRS, (word, value)), False)
                self.assertIs(is_condition(PAIRS, [word, "x", "x"]), False)
                self.assertIs(is_condition(PAIRS, (word, "x", value)), value in ("x", "alike", NIL, ("pair", NIL, NIL)))
                self.assertIs(is_condition(PAIRS, (word, value, "x")), value in ("x", "alike", NIL, ("pair", NIL, NIL)))
            self.assertIs(is_condition(PAIRS, (value, "x", "x")), value == "alike")

    def test_words(self):
        for word in WORDS:
            self.assertIs(is_condition(PAIRS, (word, "x", "x")), True)
            for other in (word.upper(), word + "s", word[:-1], "", (word,), [word], word + " "):
                self.assertIs(is_condition(PAIRS, (other, "x", "x")), False)
            self.assertIs(is_condition(PAIRS, (word, "x")), False)
            self.assertIs(is_condition(PAIRS, (word, "x", "x", "x")), False)
            self.assertIs(is_condition(PAIRS, (word,)), False)

    def test_open_places_stand_in_patterns_alone(self):
        for world in (PAIRS, WIDE_PAIRS):
            for leaf in ("_", ("*",)):
                for part in (leaf, ("pair", leaf, "x"), ("pair", "x", ("pair", NIL, leaf))):
                    for word in WORDS:
                        self.assertIs(is_condition(world, (word, part, "x")), False)
                        due = word in ("fits", "misses") and (world.more or leaf == "_")
                        self.assertIs(is_condition(world, (word, "x", part)), due, (word, part))
            self.assertIs(is_condition(world, ("fits", "x", ("*", 0))), False)
            self.assertIs(is_condition(world, ("alike", ("*", 0), "x")), False)

    def test_any_depth(self):
        for word in WORDS:
            self.assertIs(is_condition(PAIRS, (word, deep(5000, "x"), deep(5000, "y"))), True)
            self.assertIs(is_condition(PAIRS, (word, deep(5000, "x"), deep(5000, ("one", "x")))), False)
            self.assertIs(is_condition(PAIRS, (word, deep(5000, "_"), "y")), False)
            self.assertIs(is_condition(PAIRS, (word, "x", deep(5000, "_"))), word in ("fits", "misses"))

    def test_random_conditions_and_changed_ones(self):
        for seed, world in enumerate([FULL, WIDE_FULL, *TIGHT_WORLDS]):
            forms = Forms(world, seed)
            for _ in range(30):
                condition = forms.condition()
                self.assertIs(is_condition(world, condition), True)
                word, form, other = condition
                values = [(word, value, other) for value in plain.changed(form)]
                values += [(word, form, value) for value in plain.changed(other)]
                values += [(word, other, form), (word, form, forms.form(3)[0]), (word, forms.form(3)[0], other)]
                for value in values + plain.changed(condition)[:14]:
                    self.assertIs(is_condition(world, value), plain.is_condition(world, value), value)


class LettersOf(unittest.TestCase):
    def test_without_the_letters_of_patterns(self):
        self.assertEqual(letters_of([("fits", "x", ("pair", "y", "z")), ("misses", ("pair", "u", NIL), "w")]),
                         ["u", "x"])
        self.assertEqual(letters_of([("alike", "x", ("pair", "y", "z")), ("unlike", ("pair", "u", NIL), "w")]),
                         ["u", "w", "x", "y", "z"])
        self.assertEqual(letters_of([("fits", "y", ("pair", "y", "z")), ("alike", NIL, NIL)]), ["y"])
        self.assertEqual(letters_of([]), [])
        self.assertEqual(letters_of([("alike", "ab", "b"), ("alike", "a", "abc"), ("unlike", "nil", "b")]),
                         ["a", "ab", "abc", "b", "nil"])

    def test_random_sayings(self):
        for seed, world in enumerate([FULL, WIDE_FULL, *TIGHT_WORLDS]):
            forms = Forms(world, seed)
            for _ in range(30):
                saying = forms.saying(names=["a", "zz", "pair", "x", "y"])
                kept = copy.deepcopy(saying)
                told = letters_of(saying)
                self.assertEqual(told, plain.letters_of(saying))
                told.append("x")
                self.assertEqual(letters_of(saying), plain.letters_of(saying))
                self.assertEqual(saying, kept)

    def test_forms_of_any_depth(self):
        self.assertEqual(letters_of([("alike", deep(5000, "y"), deep(5000, "x")), ("fits", "x", deep(5000, "z"))]),
                         ["x", "y"])


class Holds(unittest.TestCase):
    def test_random_sayings_for_all_small_trees(self):
        for seed, world in enumerate([FULL, WIDE_FULL, *TIGHT_WORLDS]):
            forms = Forms(world, seed)
            trees = plain.trees_up_to(world, 40)
            for _ in range(40):
                saying = forms.saying(3)
                names = plain.letters_of(saying)
                kept = copy.deepcopy(saying)
                tried = list(itertools.product(trees[:12] + trees[-2:], repeat=len(names)))
                for chosen in tried[:: len(tried) // 60 + 1]:
                    values = dict(zip(names, chosen), spare=trees[0])
                    due = plain.saying_holds(saying, values)
                    self.assertIs(holds(world, saying, values), due, (saying, values))
                    for condition in saying:
                        due = plain.condition_holds(condition, values)
                        self.assertIs(holds(world, [condition], values), due)
                        self.assertIs(holds(world, [against(condition)], values), not due)
                self.assertEqual(saying, kept)

    def test_letters_of_patterns_are_their_own(self):
        values = {"x": ("pair", NIL, NIL), "y": ONE}
        self.assertTrue(holds(PAIRS, [("fits", "x", ("pair", "y", "y"))], values))
        self.assertTrue(holds(PAIRS, [("fits", "x", "y"), ("fits", "y", "x")], values))
        self.assertFalse(holds(PAIRS, [("fits", ("pair", "x", "y"), ("pair", "x", "x"))], values))
        self.assertTrue(holds(PAIRS, [("misses", ("pair", "x", "y"), ("pair", "x", "x"))], values))
        self.assertTrue(holds(PAIRS, [("fits", ("pair", "x", "x"), ("pair", "y", "y"))], values))
        self.assertTrue(holds(PAIRS, [("fits", ("pair", "x", "y"), ("pair", "y", "x"))], values))

    def test_further_leaves(self):
        values = {"x": ("*", 1), "y": ("*", 2), "z": NIL}
        for condition, due in ((("fits", "x", ("*",)), True), (("misses", "z", ("*",)), True),
                               (("alike", "x", "y"), False), (("unlike", "x", "y"), True),
                               (("fits", ("pair", "x", "y"), ("pair", ("*",), ("*",))), True),
                               (("fits", ("pair", "x", "y"), ("pair", "u", "u")), False),
                               (("fits", ("pair", "x", "x"), ("pair", "u", "u")), True)):
            self.assertIs(holds(WIDE_PAIRS, [condition], values), due, condition)

    def test_empty_saying(self):
        for values in ({}, {"x": NIL}):
            self.assertIs(holds(PAIRS, [], values), True)
        self.assertIs(holds(POINT, [("alike", NIL, NIL)], {}), True)
        self.assertIs(holds(WIDE, [("unlike", NIL, NIL)], {}), False)

    def test_trees_of_any_depth(self):
        tree, other = deep(3000, ONE), deep(3000, NIL)
        saying = [("alike", "x", deep(2000, "y")), ("unlike", "x", "z"), ("fits", "x", deep(2500, "u")),
                  ("misses", ("pair", "x", "z"), ("pair", "u", "u"))]
        self.assertTrue(holds(PAIRS, saying, {"x": tree, "y": deep(1000, ONE), "z": other}))

    def test_bad_conditions_ahead_of_bad_values(self):
        good = ("alike", "x", "y")
        for value in [*plain.anything(), ("alike", "x", "_"), ("fits", "_", "x"), ("like", "x", "x"), Lot(PAIRS, [])]:
            for position, saying in ((0, [value]), (0, [value, None]), (2, [good, good, value, value, good])):
                for values in ({"x": NIL, "y": NIL}, {}, None, {"x": "x"}):
                    kept = list(saying)
                    with self.assertRaises(BadCondition) as caught:
                        holds(PAIRS, saying, values)
                    self.assertIs(type(caught.exception), BadCondition)
                    self.assertEqual(caught.exception.position, position)
                    self.assertTrue(all(one is other for one, other in zip(saying, kept)))

    def test_bad_values(self):
        saying = [("unlike", "x", ("pair", "y", NIL)), ("fits", "x", "z")]
        wrong = [value for value in plain.anything() if value != {}]
        for value in [*wrong, {}, {"x": NIL}, {"y": NIL, "z": NIL}, {"x": NIL, "y": "x"}, {"x": NIL, "y": ("*", 0)},
                      {"x": NIL, "y": NIL, "z": None}, {"x": NIL, "y": NIL, "Z": NIL}, {"x": NIL, "y": NIL, 1: NIL},
                      {"x": NIL, "y": NIL, "_": NIL}, {"x": NIL, "y": NIL, "ninechars": NIL}, [("x", NIL), ("y", NIL)]]:
            with self.assertRaises(BadValues) as caught:
                holds(PAIRS, saying, value)
            self.assertIs(type(caught.exception), BadValues)
            self.assertIs(caught.exception.value, value)
        for value in [value for value in wrong if value != {"x": NIL}]:
            with self.assertRaises(BadValues) as caught:
                holds(PAIRS, [], value)
            self.assertIs(caught.exception.value, value)
        self.assertIs(holds(PAIRS, saying, {"x": NIL, "y": NIL}), True)
        self.assertIs(holds(PAIRS, saying, {"x": NIL, "y": NIL, "z": ONE, "eightsgn": ONE}), True)


class Against(unittest.TestCase):
    def test_all_four_kinds(self):
        form, other = ("pair", "x", NIL), ("pair", "y", "y")
        for one, word in (("alike", "unlike"), ("unlike", "alike"), ("fits", "misses"), ("misses", "fits")):
            self.assertEqual(against((one, form, other)), (word, form, other))
            self.assertEqual(against(against((one, form, other))), (one, form, other))
        self.assertEqual(against(("fits", "x", ("pair", "_", ("*",)))), ("misses", "x", ("pair", "_", ("*",))))

    def test_what_it_says(self):
        for seed, world in enumerate(TIGHT_WORLDS):
            forms = Forms(world, seed)
            trees = plain.trees_up_to(world, 20)
            for _ in range(40):
                condition = forms.condition("x")
                told = against(condition)
                self.assertTrue(is_condition(world, told))
                for tree in trees:
                    self.assertIsNot(plain.condition_holds(condition, {"x": tree}),
                                     plain.condition_holds(told, {"x": tree}))


if __name__ == "__main__":
    unittest.main()
