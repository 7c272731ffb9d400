"""[7], [8] and stage 9: answer, follows and say_same, over all small trees and beyond them."""

import copy
import itertools
import unittest

from butthese import solving
from butthese.errors import BadCondition
from butthese.lots import Lot
from butthese.sayings import against, holds
from butthese.solving import answer, follows, say_same
from butthese.worlds import World
import plain
from plain import (A, B, CHAIN, FULL, LONE_PAIRS, MIXED, NIL, ONE, PAIRS, POINT, THREE, TIGHT_WORLDS, TRIPLES, TWO,
                   WIDE, WIDE_FULL, WIDE_PAIRS, WIDE_TWO, Forms)

DEEPEST_TOLD = 300
FINITE = [POINT, TWO, THREE]


def small_dicts(world, names, many=220):
    """Dicts from names to small trees: with so few trees that there are not many dicts."""
    trees = plain.trees_up_to(world, 60)
    while len(trees) > 2 and len(trees) ** len(names) > many and world not in FINITE:
        trees = trees[:-1]
    return [dict(zip(names, chosen)) for chosen in itertools.product(trees, repeat=len(names))]


def signs_of(saying):
    return sum(plain.signs_in(form) for _, *forms in saying for form in forms)


class Solving(unittest.TestCase):
    """What is asked of what is told, as [7] and [8] say it."""

    def check_answer(self, world, saying, dicts=()):
        told = answer(world, saying)
        if told is None:
            for values in dicts:
                self.assertFalse(plain.saying_holds(saying, values), (world.signs, saying, values))
        else:
            self.assertIs(type(told), dict)
            self.assertEqual(sorted(told), plain.letters_of(saying))
            for tree in told.values():
                self.assertTrue(plain.is_tree(world, tree), tree)
                self.assertLessEqual(plain.depth(tree), DEEPEST_TOLD)
            self.assertTrue(plain.saying_holds(saying, told), (world.signs, saying, told))
        return told

    def check_follows(self, world, saying, condition, dicts=()):
        told = follows(world, saying, condition)
        self.assertIs(type(told), bool)
        if told:
            for values in dicts:
                if plain.saying_holds(saying, values):
                    self.assertTrue(plain.condition_holds(condition, values), (world.signs, saying, condition, values))
        else:
            values = self.check_answer(world, [*saying, against(condition)])
            self.assertIsNotNone(values)
            self.assertTrue(plain.saying_holds(saying, values))
            self.assertFalse(plain.condition_holds(condition, values))
        return told

    def check_same(self, world, first, second, dicts=()):
        told = say_same(world, first, second)
        self.assertIs(type(told), bool)
        self.assertIs(say_same(world, second, first), told)
        if told:
            for values in dicts:
                self.assertIs(plain.saying_holds(first, values), plain.saying_holds(second, values),
                              (world.signs, first, second, values))
        else:
            behind = [follows(world, first, condition) for condition in second]
            behind += [follows(world, second, condition) for condition in first]
            self.assertIn(False, behind)
        return told


class Examples(Solving):
    def test_examples_of_the_document(self):
        world = World([("nil", 0), ("one", 0), ("pair", 2)])
        self.assertEqual([answer(world, [("alike", "x", ("pair", "x", "y"))]),
                          answer(world, [("misses", "x", ("pair", "_", "_")), ("unlike", "x", NIL)])],
                         [None, {"x": ONE}])
        self.assertEqual([follows(world, [("misses", "x", ("pair", "u", "u"))], ("unlike", "x", ("pair", "y", "y"))),
                          answer(World([("nil", 0)]), [("unlike", "x", "y")])], [True, None])
        self.assertTrue(say_same(world, [("alike", ("pair", "x", "y"), ("pair", "y", NIL))],
                                 [("alike", "x", NIL), ("alike", "y", NIL)]))

    def test_functions_stand_in_the_file(self):
        for function in (answer, follows, say_same):
            self.assertEqual(function.__module__, "butthese.solving")
            self.assertIs(getattr(solving, function.__name__), function)

    def test_arguments_by_their_names(self):
        saying = [("alike", "x", NIL)]
        self.assertEqual(answer(saying=saying, world=PAIRS), {"x": NIL})
        self.assertIs(follows(condition=("unlike", "x", ONE), saying=saying, world=PAIRS), True)
        self.assertIs(say_same(second=[("alike", NIL, "x")], first=saying, world=PAIRS), True)

    def test_calls_made_again(self):
        for seed, world in enumerate([*TIGHT_WORLDS, FULL, WIDE_FULL]):
            forms = Forms(world, seed)
            for _ in range(10):
                saying, condition = forms.saying(4), forms.condition()
                kept = copy.deepcopy((saying, condition))
                told = answer(world, saying)
                again = answer(world, copy.deepcopy(saying))
                self.assertEqual(told, again)
                if told is not None:
                    told["x"] = None
                    self.assertEqual(answer(world, saying), again)
                self.assertEqual(follows(world, saying, condition), follows(world, saying, condition))
                self.assertEqual((saying, condition), kept)


class SmallTrees(Solving):
    def test_random_sayings(self):
        for seed, world in enumerate(TIGHT_WORLDS):
            forms = Forms(world, seed)
            for turn in range(150):
                names = ("x", "xy", "xy", "xyz")[turn % 4]
                saying = forms.saying((2, 3, 6)[turn % 3], names)
                self.check_answer(world, saying, small_dicts(world, plain.letters_of(saying)))

    def test_random_sayings_that_many_dicts_fit(self):
        """Without alike and fits, so that not all of them fail by signs that are not the same."""
        for seed, world in enumerate(TIGHT_WORLDS):
            forms = Forms(world, seed + 50)
            for turn in range(80):
                names = ("x", "xy", "xyz")[turn % 3]
                saying = [condition for _ in range(4) for condition in forms.saying(3, names)]
                saying = [condition for condition in saying if condition[0] in ("unlike", "misses")][:6]
                self.check_answer(world, saying, small_dicts(world, plain.letters_of(saying)))

    def test_random_conditions_that_may_follow(self):
        for seed, world in enumerate(TIGHT_WORLDS):
            forms = Forms(world, seed + 100)
            for turn in range(80):
                names = ("x", "xy", "xyz")[turn % 3]
                saying, condition = forms.saying(4, names), forms.condition(names)
                dicts = small_dicts(world, plain.letters_of([*saying, condition]))
                self.check_follows(world, saying, condition, dicts)
                for condition in saying:
                    self.assertTrue(follows(world, saying, condition))

    def test_random_sayings_that_may_say_the_same(self):
        for seed, world in enumerate(TIGHT_WORLDS):
            forms = Forms(world, seed + 150)
            for turn in range(60):
                names = ("x", "xy", "xyz")[turn % 3]
                first = forms.saying(4, names)
                second = first[::-1] if turn % 2 else forms.saying(2, names)
                if turn % 4 == 1:
                    second = second[1:] + forms.saying(1, names)
                self.check_same(world, first, second, small_dicts(world, plain.letters_of(first + second)))
                self.assertTrue(say_same(world, first, first[::-1] + first))

    def test_finite_worlds_over_all_their_trees(self):
        for seed, world in enumerate(FINITE):
            forms = Forms(world, seed)
            for turn in range(150):
                names = ("xy", "xyz", "wxyz")[turn % 3]
                saying, condition = forms.saying(6, names), forms.condition(names)
                dicts = small_dicts(world, plain.letters_of(saying))
                due = any(plain.saying_holds(saying, values) for values in dicts)
                self.assertIs(self.check_answer(world, saying) is not None, due, saying)
                dicts = small_dicts(world, plain.letters_of([*saying, condition]))
                due = all(plain.condition_holds(condition, values) for values in dicts
                          if plain.saying_holds(saying, values))
                self.assertIs(follows(world, saying, condition), due)

    def test_letters_that_can_not_all_differ(self):
        names = ["p", "q", "r", "s", "t"]
        for world, most in ((POINT, 1), (TWO, 2), (THREE, 3), (WIDE, 5), (WIDE_TWO, 5), (CHAIN, 5), (PAIRS, 5)):
            for many in range(2, 6):
                saying = [("unlike", *pair) for pair in itertools.combinations(names[:many], 2)]
                self.assertIs(self.check_answer(world, saying) is not None, many <= most)
        circle = [("unlike", one, other) for one, other in zip(names, names[1:] + names[:1])]
        self.assertIsNone(answer(TWO, circle))
        self.assertIsNotNone(self.check_answer(TWO, circle[1:]))
        self.assertIsNotNone(self.check_answer(THREE, circle))


class GreaterTrees(Solving):
    def test_sayings_that_are_made_for_a_dict(self):
        """They hold for the dict that they were made for, however great its trees are, so they can hold."""
        for seed, world in enumerate([*TIGHT_WORLDS, FULL, WIDE_FULL]):
            forms = Forms(world, seed)
            for turn in range(90):
                names = "wxyz"[:turn % 4 + 1]
                trees = [forms.tree(forms.random.randint(1, 4)) for _ in range(4)]
                values = {name: forms.random.choice(trees) for name in names}
                saying = self.saying_for(forms, names, values)
                self.assertIsNotNone(self.check_answer(world, saying), (world.signs, saying, values))
                condition = forms.condition(names)
                if not plain.condition_holds(condition, values):
                    self.assertFalse(self.check_follows(world, saying, condition))
                    self.assertFalse(self.check_same(world, saying, [*saying, condition]))

    def saying_for(self, forms, names, values):
        saying = []
        for _ in range(30):
            condition = forms.condition(names)
            if condition[0] in ("fits", "misses") and forms.random.random() < 0.6:
                tree = plain.put_in(condition[1], values)
                condition = (*condition[:2], forms.around(tree))
            if plain.condition_holds(condition, values) and plain.depth(condition[2]) <= 4:
                if len(saying) < 6 and signs_of([*saying, condition]) <= 24:
                    saying.append(condition)
        return saying

    def test_finite_choices_that_run_out(self):
        """x and y, and z, are leaves by what they miss: so there are few trees for them."""
        pair = ("pair", "_", "_")
        leaves = [("misses", "x", pair), ("misses", "y", pair)]
        self.assertIsNotNone(self.check_answer(PAIRS, [*leaves, ("unlike", "x", "y")]))
        self.assertIsNone(answer(PAIRS, [*leaves, ("unlike", "x", "y"), ("unlike", "x", NIL), ("unlike", "y", NIL)]))
        self.assertIsNotNone(self.check_answer(WIDE_PAIRS, [*leaves, ("unlike", "x", "y"), ("unlike", "x", NIL),
                                                            ("unlike", "y", NIL)]))
        self.assertIsNone(answer(LONE_PAIRS, [("misses", "x", ("h", "_", "_")), ("misses", "y", ("h", "_", "_")),
                                              ("unlike", "x", "y")]))
        self.assertTrue(follows(PAIRS, [*leaves, ("unlike", "x", "y"), ("unlike", "x", NIL)], ("alike", "y", NIL)))
        self.assertFalse(follows(PAIRS, [*leaves, ("unlike", "x", "y")], ("alike", "y", NIL)))
        self.assertTrue(follows(LONE_PAIRS, [("misses", "x", ("h", "_", "_"))], ("alike", "x", A)))
        both = ("pair", "x", "y")
        saying = [("misses", both, ("pair", pair, "_")), ("misses", both, ("pair", "_", pair)),
                  ("misses", both, ("pair", "u", "u")), ("misses", "x", NIL)]
        self.assertTrue(follows(PAIRS, saying, ("alike", "y", NIL)))
        self.assertFalse(follows(PAIRS, saying[1:], ("alike", "y", NIL)))
        three = ("f", "x", "y", "z")
        deeper = [("misses", three, ("f", *["_"] * at, ("f", "_", "_", "_"), *["_"] * (2 - at))) for at in range(3)]
        self.assertTrue(follows(TRIPLES, deeper, ("alike", "x", "z")))
        self.assertFalse(follows(TRIPLES, deeper[:2], ("alike", "x", "z")))

    def test_trees_that_lie_in_themselves(self):
        g = ("g", "x")
        self.assertIsNone(answer(MIXED, [("alike", "x", g)]))
        self.assertIsNone(answer(MIXED, [("alike", "x", ("g", "y")), ("alike", "y", ("h", "z", "x"))]))
        self.assertEqual(self.check_answer(MIXED, [("alike", ("g", "x"), ("g", "x"))]).keys(), {"x"})
        self.assertTrue(follows(MIXED, [], ("unlike", "x", g)))
        self.assertTrue(follows(MIXED, [], ("unlike", "x", ("h", ("g", "y"), ("g", ("g", "x"))))))
        self.assertTrue(follows(MIXED, [("fits", "x", ("h", "u", "_")), ("alike", "y", "x")], ("unlike", g, "y")))
        self.assertIsNone(answer(MIXED, [("fits", ("h", "x", ("g", "x")), ("h", "u", "u"))]))
        self.assertTrue(follows(MIXED, [], ("misses", ("h", "x", ("g", "x")), ("h", "u", "u"))))

    def test_letters_of_patterns(self):
        pair = ("pair", "x", "y")
        self.assertTrue(follows(PAIRS, [("fits", "x", pair)], ("fits", "x", ("pair", "_", "_"))))
        self.assertIsNotNone(self.check_answer(PAIRS, [("fits", "x", pair)]))
        self.assertTrue(say_same(PAIRS, [("fits", "x", ("pair", "x", "x"))], [("fits", "x", ("pair", "y", "y"))]))
        self.assertFalse(say_same(PAIRS, [("fits", "x", ("pair", "x", "x"))], [("fits", "x", ("pair", "x", "y"))]))
        self.assertTrue(say_same(PAIRS, [("fits", pair, ("pair", "y", "y"))], [("alike", "x", "y")]))
        self.assertTrue(say_same(PAIRS, [("misses", pair, ("pair", "x", "x"))], [("unlike", "x", "y")]))
        self.assertTrue(say_same(PAIRS, [("misses", "x", "x")], [("unlike", "y", "y")]))
        self.assertTrue(say_same(PAIRS, [("fits", "x", "y"), ("fits", "y", "x")], []))
        self.assertFalse(follows(PAIRS, [("misses", "x", ("pair", "y", "y"))], ("unlike", "x", ("pair", "y", "z"))))
        self.assertTrue(follows(PAIRS, [("fits", "x", ("pair", "u", ("pair", "u", "_")))],
                                ("fits", "x", ("pair", "_", ("pair", "_", "y")))))
        self.assertFalse(follows(PAIRS, [("fits", "x", ("pair", "u", ("pair", "_", "_")))],
                                 ("fits", "x", ("pair", "u", ("pair", "u", "_")))))

    def test_further_leaves(self):
        leaf = ("*",)
        self.assertEqual(self.check_answer(WIDE_PAIRS, [("fits", "x", leaf)])["x"][0], "*")
        leaves = ("fits", ("pair", "x", "y"), ("pair", leaf, leaf))
        told = self.check_answer(WIDE_PAIRS, [leaves, ("unlike", "x", "y")])
        self.assertNotEqual(told["x"], told["y"])
        self.assertIsNone(answer(WIDE_PAIRS, [("fits", "x", leaf), ("fits", "x", ("pair", "_", "_"))]))
        self.assertIsNone(answer(WIDE_PAIRS, [("fits", "x", leaf), ("misses", "x", leaf)]))
        self.assertEqual(answer(WIDE_PAIRS, [("misses", "x", leaf), ("misses", "x", ("pair", "_", "_"))]), {"x": NIL})
        self.assertFalse(follows(WIDE_PAIRS, [("fits", "x", leaf), ("fits", "y", leaf)], ("alike", "x", "y")))
        self.assertTrue(follows(WIDE, [("unlike", "x", NIL)], ("fits", "x", leaf)))
        self.assertTrue(follows(WIDE_PAIRS, [("fits", ("pair", "x", "y"), ("pair", "u", "u")), ("fits", "x", leaf)],
                                ("fits", "y", leaf)))
        self.assertFalse(follows(WIDE_PAIRS, [("unlike", "x", NIL)], ("fits", "x", leaf)))
        names = ["p", "q", "r", "s"]
        self.assertIsNotNone(self.check_answer(WIDE, [("unlike", *pair) for pair in itertools.combinations(names, 2)]))

    def test_letters_that_the_saying_has_not(self):
        self.assertFalse(follows(PAIRS, [("alike", "x", NIL)], ("alike", "x", "y")))
        self.assertTrue(follows(PAIRS, [("alike", "x", NIL)], ("unlike", "x", ("pair", "y", "z"))))
        self.assertTrue(follows(POINT, [], ("alike", "x", "y")))
        self.assertTrue(follows(PAIRS, [], ("alike", "y", "y")))
        self.assertTrue(follows(PAIRS, [], ("fits", "y", "_")))
        self.assertFalse(follows(PAIRS, [], ("misses", "y", ("pair", "_", "_"))))
        self.assertTrue(say_same(PAIRS, [], [("alike", "x", "x"), ("fits", ("pair", "y", "z"), ("pair", "_", "_"))]))
        self.assertFalse(say_same(PAIRS, [], [("alike", "x", "y")]))
        self.assertFalse(say_same(PAIRS, [("alike", "x", NIL)], [("alike", "y", NIL)]))

    def test_sayings_that_can_not_hold(self):
        for saying in ([("unlike", "x", "x")], [("alike", NIL, ONE)], [("fits", "x", NIL), ("fits", "x", ONE)],
                       [("misses", "x", "_")], [("alike", "x", ("pair", "x", "x"))]):
            self.assertIsNone(answer(PAIRS, saying))
            for condition in (("alike", NIL, ONE), ("alike", "p", "q"), ("misses", "x", "x"), ("unlike", "x", "x")):
                self.assertTrue(follows(PAIRS, saying, condition))
            self.assertTrue(say_same(PAIRS, saying, [("unlike", "p", "p")]))
            self.assertFalse(say_same(PAIRS, saying, [("alike", "x", "x")]))

    def test_sayings_without_letters(self):
        self.assertEqual(answer(PAIRS, []), {})
        self.assertEqual(answer(PAIRS, [("unlike", NIL, ONE), ("fits", NIL, "x")]), {})
        self.assertIsNone(answer(PAIRS, [("unlike", NIL, NIL)]))
        self.assertTrue(follows(PAIRS, [], ("unlike", NIL, ONE)))
        self.assertFalse(follows(PAIRS, [], ("alike", NIL, ONE)))
        self.assertTrue(say_same(PAIRS, [], []))
        self.assertTrue(say_same(PAIRS, [("alike", NIL, NIL)], [("fits", ONE, ONE)]))
        self.assertFalse(say_same(PAIRS, [("alike", NIL, NIL)], [("fits", ONE, NIL)]))

    def test_letters_of_which_nothing_is_said(self):
        for world in [*TIGHT_WORLDS, FULL, WIDE_FULL]:
            self.check_answer(world, [("alike", "x", "x"), ("fits", "y", "x"), ("alike", "z", "y")])
            self.assertEqual(sorted(answer(world, [("fits", "b", "_"), ("alike", "a", "a")])), ["a", "b"])


class LongSayings(Solving):
    def test_six_conditions_with_24_signs(self):
        for seed, world in enumerate([FULL, WIDE_FULL, TRIPLES, MIXED, PAIRS]):
            forms = Forms(world, seed)
            for turn in range(40):
                saying = []
                while len(saying) < 6:
                    word = forms.random.choice(["unlike", "misses", "misses"] + ["alike", "fits"] * (turn % 2))
                    form, other = forms.bare(2, "vwxyz"), forms.bare(4, "vwxyz")
                    if word in ("misses", "fits"):
                        other, _ = forms.form(4, 4, "uv", 0.95)
                    if signs_of([*saying, (word, form, other)]) <= 24:
                        saying.append((word, form, other))
                told = self.check_answer(world, saying)
                for condition in saying[:2]:
                    self.check_follows(world, saying[2:], condition)
                    if told is not None:
                        self.assertFalse(follows(world, saying, against(condition)))

    def test_trees_that_grow_manifold(self):
        """Five times as many parts with each condition: they can be told all the same."""
        def fivefold(one, other):
            return ("alike", one, ("f", other, other, ("f", other, other, other)))

        names = "abcdefg"
        grown = [fivefold(*pair) for pair in zip(names, names[1:])]
        told = answer(TRIPLES, grown)
        self.assertEqual(sorted(told), list(names))
        self.assertEqual([plain.depth(told[name]) for name in names[2:]], [9, 7, 5, 3, 1])
        self.assertTrue(holds(TRIPLES, grown, told))
        self.assertFalse(follows(TRIPLES, grown, ("alike", "a", "b")))
        self.assertTrue(follows(TRIPLES, grown, ("unlike", "a", ("f", "g", "g", "g"))))
        self.assertTrue(follows(TRIPLES, grown[:3] + [fivefold("h", "b")], ("alike", "a", "h")))

    def test_two_chains_of_the_same_trees(self):
        def chain(name):
            return [("alike", name + one, ("f", *[name + other] * 3)) for one, other in zip("abcdefgh", "bcdefghi")]

        both = chain("a") + chain("b")
        self.assertTrue(follows(TRIPLES, [*both, ("alike", "ai", "bi")], ("alike", "aa", "ba")))
        self.assertTrue(follows(TRIPLES, [*both, ("alike", "aa", "ba")], ("alike", "ai", "bi")))
        self.assertTrue(follows(TRIPLES, [*both, ("alike", "ai", "bh")], ("unlike", "aa", "ba")))
        self.assertFalse(follows(TRIPLES, both, ("alike", "aa", "ba")))
        self.assertFalse(follows(TRIPLES, both, ("unlike", "aa", "ba")))

    def test_parts_of_sayings_that_have_nothing_to_do_with_one_another(self):
        """What is tried for one part is not tried again for each choice that another part leaves."""
        deep = ("f", ("f", ("f", "_", "_", "_"), "_", "_"), "_", "_")
        saying = [("misses", ("f", name, name, "w"), deep) for name in "pqrs"]
        few = [("misses", "x", ("f", "_", "_", "_")), ("misses", "x", A)]
        self.assertIsNone(answer(TRIPLES, saying + few))
        self.assertIsNotNone(self.check_answer(TRIPLES, saying + few[:1]))
        self.assertIsNone(answer(World([("a", 0), ("b", 0), ("f", 3)]), saying + few + [("unlike", "x", B)]))
        leaves = World([(name, 0) for name in "abcdef"])
        pairs = [("unlike", *pair) for pair in zip("ghijk", "lmnop")]
        none = [("misses", "x", (name,)) for name in "abcdef"]
        self.assertIsNone(answer(leaves, pairs + none))
        self.assertIsNotNone(self.check_answer(leaves, pairs + none[1:]))

    def test_told_trees_in_sayings(self):
        tree = plain.chain(250)
        self.assertEqual(answer(CHAIN, [("alike", ("next", "x"), tree)]), {"x": tree[1]})
        self.assertFalse(follows(CHAIN, [("misses", "x", tree)], ("alike", "x", tree[1])))
        self.assertTrue(follows(CHAIN, [("alike", "x", tree)], ("misses", "x", tree[1])))


class Wrong(unittest.TestCase):
    def raises(self, position, function, *passed):
        with self.assertRaises(BadCondition) as caught:
            function(*passed)
        self.assertIs(type(caught.exception), BadCondition)
        self.assertEqual(caught.exception.position, position)

    def test_the_first_entry_that_is_not_a_condition(self):
        good = ("alike", "x", NIL)
        for value in [*plain.anything(), ("alike", "x", "_"), ("fits", "_", "x"), ("like", "x", "x"), Lot(PAIRS, [])]:
            for position, saying in ((0, [value]), (0, [value, None]), (2, [good, good, value, value, good])):
                kept = list(saying)
                self.raises(position, answer, PAIRS, saying)
                self.raises(position, follows, PAIRS, saying, good)
                self.raises(position, follows, PAIRS, saying, value)
                self.raises(position, say_same, PAIRS, saying, [good])
                self.raises(position, say_same, PAIRS, [good], saying)
                self.raises(position, say_same, PAIRS, saying, [value])
                self.assertTrue(all(one is other for one, other in zip(saying, kept)))
            self.raises(0, follows, PAIRS, [good, good], value)
            self.raises(0, follows, PAIRS, [], value)

    def test_the_first_saying_ahead_of_the_second_one(self):
        good = ("alike", "x", NIL)
        self.raises(1, say_same, PAIRS, [good, None], [None])
        self.raises(0, say_same, PAIRS, [good, good], [("alike", "x"), good])
        self.raises(2, follows, PAIRS, [good, good, ("alike", ("*",), "x")], None)

    def test_sayings_that_can_not_hold_are_looked_at_all_the_same(self):
        never = ("unlike", "x", "x")
        self.raises(1, answer, PAIRS, [never, None])
        self.raises(0, follows, PAIRS, [never], None)
        self.raises(1, say_same, PAIRS, [never], [never, ("fits", "x", ("*",))])

    def test_conditions_with_parts_changed(self):
        for seed, world in enumerate(TIGHT_WORLDS):
            forms = Forms(world, seed)
            good = ("alike", "x", "x")
            for _ in range(12):
                word, form, other = forms.condition()
                for value in [(word, form, value) for value in plain.changed(other)] + [(word, other, form)]:
                    if plain.is_condition(world, value):
                        answer(world, [good, value])
                    else:
                        self.raises(1, answer, world, [good, value])
                        self.raises(0, follows, world, [good], value)


if __name__ == "__main__":
    unittest.main()
