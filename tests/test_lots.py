"""[5], [6] and stage 5: lots, over all small trees and, by exact shares, for trees of any size."""

import copy
import itertools
import unittest

from butthese import lots
from butthese.lots import Lot
from butthese.rests import parted, rest
from butthese.worlds import World
import plain
from plain import (CHAIN, NIL, ONE, PAIRS, PATHS, POINT, THREE, TIGHT_WORLDS, WIDE, WIDE_FULL, WIDE_PAIRS, WORLDS,
                   Forms, at_place)
from wrong import WrongPlainLists

MOST_SIGNS_OF_TEXTS = 800
METHODS = ("has", "joined", "both", "less", "others", "same_as", "is_empty", "within")


def fits_any(forms, tree):
    return any(plain.plain_fits(form, tree) for form in forms)


class Lots(unittest.TestCase):
    """What is asked of a lot, as [5] and stage 5 say it."""

    def check_forms(self, world, lot):
        """The forms are plain, and no two of them share a tree."""
        told = lot.forms
        self.assertIs(type(told), list)
        for form in told:
            self.assertTrue(plain.is_plain(world, form), form)
        for one, other in itertools.combinations(told, 2):
            self.assertTrue(plain.apart(one, other), (one, other))
        return told

    def check(self, world, lot, trees, within):
        """A lot has just those of some trees that are to be within."""
        self.assertIs(type(lot), Lot)
        self.assertEqual(lot.world, world)
        told = self.check_forms(world, lot)
        self.assertIs(lot.is_empty(), told == [])
        for tree, due in zip(trees, within):
            self.assertIs(lot.has(tree), due, (told, tree))
            self.assertEqual(sum(plain.plain_fits(form, tree) for form in told), due, (told, tree))

    def share(self, world, lot):
        return sum(plain.share(world, form) for form in lot.forms)


class Examples(Lots):
    def test_examples_of_the_document(self):
        world = World([("nil", 0), ("one", 0), ("pair", 2)])
        lot, other = Lot(world, [("pair", "_", "_")]), Lot(world, [("pair", NIL, "_"), ONE])
        self.assertEqual([lot.has(NIL), lot.joined(other).others().forms, lot.both(other).has(("pair", NIL, NIL)),
                          lot.less(lot).is_empty()], [False, [NIL], True, True])
        self.assertEqual([lot.others().others().same_as(lot), other.within(lot),
                          other.less(Lot(world, [ONE])).within(lot), other.has(None)], [True, False, True, False])

    def test_the_class_stands_in_the_file(self):
        self.assertEqual(Lot.__module__, "butthese.lots")
        self.assertIs(lots.Lot, Lot)
        for name in (*METHODS, "world", "forms"):
            self.assertIn(name, vars(Lot))

    def test_arguments_by_their_names(self):
        lot, other = Lot(forms=[NIL], world=PAIRS), Lot(PAIRS, forms=[ONE])
        self.assertTrue(lot.has(tree=NIL))
        self.assertEqual([lot.joined(other=other).has(ONE), lot.both(other=other).is_empty(),
                          lot.less(other=other).has(NIL), lot.same_as(other=other), lot.within(other=other)],
                         [True, True, True, False, False])


class SmallTrees(Lots):
    def check_calls(self, world, first, second, trees):
        """All that can be asked of two lists of plain forms."""
        lot, other = Lot(world, first), Lot(world, second)
        mine = [fits_any(first, tree) for tree in trees]
        theirs = [fits_any(second, tree) for tree in trees]
        pairs = list(zip(mine, theirs))
        self.check(world, lot, trees, mine)
        self.check(world, lot.joined(other), trees, [one or two for one, two in pairs])
        self.check(world, lot.both(other), trees, [one and two for one, two in pairs])
        self.check(world, lot.less(other), trees, [one and not two for one, two in pairs])
        self.check(world, lot.others(), trees, [not one for one in mine])
        self.check(world, other.less(lot), trees, [two and not one for one, two in pairs])
        self.check_shares(world, lot, other)
        self.check(world, lot, trees, mine)
        self.check(world, other, trees, theirs)

    def check_shares(self, world, lot, other):
        """What holds of the trees of any size: shares add up, and are alike just where lots are."""
        one, two, both = (self.share(world, each) for each in (lot, other, lot.both(other)))
        self.assertEqual(self.share(world, lot.joined(other)), one + two - both)
        self.assertEqual(self.share(world, lot.less(other)), one - both)
        self.assertEqual(self.share(world, lot.others()), 1 - one)
        self.assertIs(lot.within(other), one == both)
        self.assertIs(other.within(lot), two == both)
        self.assertIs(lot.same_as(other), one == both == two)
        self.assertIs(other.same_as(lot), one == both == two)
        self.assertIs(lot.is_empty(), one == 0)
        self.assertTrue(lot.same_as(lot) and lot.within(lot) and lot.others().others().same_as(lot))

    def test_random_lists(self):
        for seed, world in enumerate([*WORLDS, *TIGHT_WORLDS]):
            forms = Forms(world, seed)
            trees = plain.trees_up_to(world, 60)
            for turn in range(35):
                eager = (0.6, 0.9)[turn % 2]
                first, second = forms.plain_list(4, 8, eager), forms.plain_list(6, 12, eager)
                if turn % 5 == 0:
                    second = rest(world, second)
                if turn % 7 == 0:
                    second = first[::-1] + second[:1]
                if len(second) < 60:
                    kept = copy.deepcopy((first, second))
                    self.check_calls(world, first, second, trees)
                    self.assertEqual((first, second), kept)

    def test_all_small_lists(self):
        leaves = [NIL, ONE, "x", ("pair", "_", NIL), ("pair", ONE, "x"), ("pair", "_", "_")]
        trees = plain.trees_up_to(PAIRS, 60)
        for first in itertools.combinations(leaves, 2):
            for second in itertools.combinations(leaves, 1):
                self.check_calls(PAIRS, list(first), list(second), trees)

    def test_empty_and_whole_lots(self):
        for world in [*WORLDS, *TIGHT_WORLDS]:
            trees = plain.trees_up_to(world, 60)
            none, whole = Lot(world, []), Lot(world, ["x"])
            self.check(world, none, trees, [False] * len(trees))
            self.check(world, whole, trees, [True] * len(trees))
            self.assertTrue(none.is_empty() and none.others().same_as(whole) and whole.others().same_as(none))
            self.assertTrue(none.within(whole) and none.within(none) and not whole.within(none))
            self.assertTrue(whole.joined(none).same_as(whole) and whole.both(none).is_empty())
            heads = [(name, *["_"] * many) for name, many in world.signs] + [("*",)] * world.more
            self.assertTrue(Lot(world, heads).same_as(whole))

    def test_worlds_of_one_tree_and_of_three(self):
        self.assertTrue(Lot(POINT, [NIL]).same_as(Lot(POINT, ["_"])))
        self.assertTrue(Lot(POINT, [NIL]).others().is_empty())
        red = Lot(THREE, [("red",)])
        self.assertEqual(sorted(red.others().forms), [("blue",), ("green",)])
        self.assertTrue(red.others().joined(red).same_as(Lot(THREE, ["x"])))

    def test_further_leaves(self):
        lot = Lot(WIDE_PAIRS, [("pair", ("*",), "_"), ("*",)])
        self.assertEqual([lot.has(("*", 0)), lot.has(("*", 10 ** 50)), lot.has(("pair", ("*", 3), NIL)),
                          lot.has(("pair", NIL, ("*", 3))), lot.has(("*",))], [True, True, True, False, False])
        self.assertEqual(Lot(WIDE, [NIL]).others().forms, [("*",)])

    def test_any_value_is_a_tree_of_it_or_not(self):
        whole = Lot(PAIRS, ["_"])
        for value in [*plain.anything(), "x", "_", ("pair", "x", NIL), ("*", 0), whole, [whole], (whole,)]:
            self.assertIs(whole.has(value), False)
        for seed, world in enumerate(WORLDS):
            tree = plain.trees_up_to(world, 60)[-1]
            told = Lot(world, ["_"])
            for value in plain.changed(tree):
                self.assertIs(told.has(value), plain.is_tree(world, value), value)


class ManyCalls(Lots):
    def test_lots_of_what_lots_told(self):
        """Chains of calls, against the same chains over a set of small trees."""
        for seed, world in enumerate(TIGHT_WORLDS):
            forms = Forms(world, seed + 30)
            trees = plain.trees_up_to(world, 60)
            lists = [forms.plain_list(4, 6) for _ in range(4)]
            known = [(Lot(world, passed), [fits_any(passed, tree) for tree in trees]) for passed in lists]
            for _ in range(25):
                (lot, mine), (other, theirs) = forms.random.choice(known), forms.random.choice(known)
                pairs = list(zip(mine, theirs))
                word = forms.random.choice(["joined", "both", "less", "others", "told"])
                if word == "told":
                    made, due = Lot(world, lot.forms + other.forms), [one or two for one, two in pairs]
                elif word == "others":
                    made, due = lot.others(), [not one for one in mine]
                else:
                    made = getattr(lot, word)(other)
                    due = [{"joined": one or two, "both": one and two, "less": one and not two}[word]
                           for one, two in pairs]
                if len(made.forms) < 80:
                    self.check(world, made, trees, due)
                    known.append((made, due))
            for (lot, mine), (other, theirs) in itertools.combinations(known[::3], 2):
                if lot.same_as(other):
                    self.assertEqual(mine, theirs)
                self.assertIs(lot.same_as(other), self.share(world, lot) == self.share(world, other)
                              == self.share(world, lot.both(other)))

    def test_lots_stay_as_they_were(self):
        for seed, world in enumerate(WORLDS):
            forms = Forms(world, seed + 60)
            passed = forms.plain_list(4, 8)
            lot, other = Lot(world, passed), Lot(world, forms.plain_list(4, 8))
            before = copy.deepcopy((lot.forms, other.forms))
            passed.append("x")
            for _ in range(2):
                lot.joined(other), lot.both(other), lot.less(other), lot.others(), lot.same_as(other)
                lot.within(other), lot.is_empty(), lot.has(NIL), other.less(lot), lot.joined(lot)
                lot.forms.append("x")
                lot.forms.clear()
            self.assertEqual((lot.forms, other.forms), before)
            self.assertIs(lot.world, world)
            self.assertIsNot(lot.forms, lot.forms)

    def test_calls_made_again(self):
        for seed, world in enumerate(WORLDS):
            forms = Forms(world, seed + 70)
            passed, others = forms.plain_list(4, 8), forms.plain_list(4, 8)
            lot, other = Lot(world, passed), Lot(world, others)
            for word, *told in (("joined", other), ("both", other), ("less", other), ("others",)):
                self.assertEqual(getattr(lot, word)(*told), getattr(lot, word)(*told))
                self.assertEqual(getattr(lot, word)(*told).forms, getattr(lot, word)(*told).forms)
            self.assertEqual(Lot(world, passed), lot)
            self.assertNotEqual(lot, lot.others())
            self.assertNotEqual(lot, lot.forms)

    def test_equal_worlds(self):
        first, second = Lot(World([("a", 0), ("g", 1)]), [("a",)]), Lot(World((("a", 0), ("g", 1))), [("g", "_")])
        self.assertTrue(first.others().same_as(second) and first.joined(second).others().is_empty())

    def test_lots_of_told_lists(self):
        for seed, world in enumerate(WORLDS):
            forms = Forms(world, seed + 80)
            for _ in range(10):
                passed = forms.plain_list()
                told = rest(world, passed)
                if len(told) < 300:
                    lot = Lot(world, passed)
                    self.assertTrue(Lot(world, told).same_as(lot.others()))
                    self.assertTrue(Lot(world, passed + told).same_as(Lot(world, ["_"])))
                    self.assertTrue(Lot(world, told).both(lot).is_empty())
                    self.assertTrue(Lot(world, lot.forms).same_as(lot))
                    for part in parted(world, passed):
                        self.assertTrue(Lot(world, part).within(lot))

    def test_great_lots(self):
        """Lots whose forms would be too many to write down can be asked all the same."""
        made = [Lot(WIDE_FULL, [at_place(path, (name,)) for path in PATHS[at:at + 4]])
                for at, name in ((0, "a"), (3, "b"), (5, "c"), (2, "b"))]
        joined, met = made[0], made[0].others()
        for lot in made[1:]:
            joined, met = joined.joined(lot), met.both(lot.others())
        self.assertTrue(met.same_as(joined.others()) and not met.is_empty())
        self.assertTrue(all(met.within(lot.others()) for lot in made))
        self.assertTrue(joined.less(made[0]).within(joined) and met.has(("a",)))
        told = rest(WIDE_FULL, [at_place(path, ("a",)) for path in PATHS[:4]])
        self.assertGreater(len(told), 2500)
        self.assertTrue(Lot(WIDE_FULL, told).same_as(made[0].others()))
        self.assertEqual(self.share(WIDE_FULL, Lot(WIDE_FULL, told)), 1 - self.share(WIDE_FULL, made[0]))

    def test_told_trees_as_forms(self):
        tree = plain.chain(250)
        lot = Lot(CHAIN, [tree])
        self.assertEqual(lot.forms, [tree])
        self.assertTrue(lot.has(tree) and not lot.has(tree[1]) and lot.others().has(tree[1]))
        self.assertEqual(len(lot.others().forms), 251)


class Bounds(Lots):
    def test_forms_stay_flat_and_their_texts_short(self):
        world, full = plain.LONG_NAMES, plain.great_forms()
        lists = ([full(2)], [full(1), full(0)], [("abcdefgh", full(1), full(2), "_")],
                 [("abcdefgh", ("abcdefgh", full(1), "_", "_"), "_", "_")])
        for passed, others in itertools.product(lists, repeat=2):
            if sum(map(plain.signs_in, passed + others)) <= 48:
                lot, other = Lot(world, passed), Lot(world, others)
                deepest = max(map(plain.depth, passed + others))
                for told in (lot, lot.joined(other), lot.both(other), lot.less(other), lot.others(), other.others()):
                    for form in told.forms[::7]:
                        self.assertLessEqual(plain.depth(form), deepest + 4)
                        self.assertLessEqual(len(plain.text(form)), MOST_SIGNS_OF_TEXTS)


class Wrong(WrongPlainLists, unittest.TestCase):
    calls = (Lot,)


if __name__ == "__main__":
    unittest.main()
