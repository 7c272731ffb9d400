"""[4], [5] and stage 7: fewest, against a look at all forms within its bounds."""

import copy
import itertools
import unittest

from butthese import fewest as module
from butthese.counts import count
from butthese.fewest import fewest
from butthese.lists import same
from butthese.lots import Lot
from butthese.rests import parted, rest
from butthese.worlds import World
import plain
from plain import (A, B, CHAIN, FORKS, FULL, LONE_PAIRS, MIXED, NIL, ONE, PAIRS, POINT, THREE, TIGHT_WORLDS, TRIPLES,
                   TWO, WIDE, WIDE_FULL, WIDE_PAIRS, WORLDS, Forms)
from wrong import WrongPlainLists

DEEPEST = 2
LONGEST = 4


def is_within_bounds(forms):
    return len(forms) <= LONGEST and all(plain.depth(form) <= DEEPEST for form in forms)


def heads_of(world):
    return [*world.signs] + ([("*", 0)] if world.more else [])


class Looked:
    """All plain forms of a world within the bounds, each with the shapes of trees that it fits as the bits of a number.

    A shape tells of a tree all signs that a form within the bounds can ask for.
    """

    def __init__(self, world):
        self.shapes = [(name, *parts) for name, many in heads_of(world)
                       for parts in itertools.product([(below,) for below, _ in heads_of(world)], repeat=many)]
        self.forms = {self.bits(form): form for form in self.all_forms(world)}

    def all_forms(self, world):
        flat = ["_"] + [(name, *["_"] * many) for name, many in heads_of(world)]
        return ["_"] + [(name, *parts) for name, many in heads_of(world)
                        for parts in itertools.product(flat, repeat=many)]

    def bits(self, form):
        return sum(1 << at for at, shape in enumerate(self.shapes) if fits_shape(form, shape))

    def bits_of_list(self, forms):
        bits = 0
        for form in forms:
            bits |= self.bits(form)
        return bits

    def can_be_said(self, bits, many):
        """Whether so many forms fit just the shapes that have bits, as tried with all forms within them."""
        inside = [own for own in self.forms if own and not own & ~bits]
        widest = [own for own in inside if not any(own != other and not own & ~other for other in inside)]
        for some in itertools.combinations(widest, many):
            told = 0
            for own in some:
                told |= own
            if told == bits:
                return True
        return False


def fits_shape(form, shape):
    """Whether a form of at most two signs one above the other fits the trees of a shape."""
    if type(form) is str:
        return True
    return form[0] == shape[0] and all(type(part) is str or part[0] == below[0]
                                       for part, below in zip(form[1:], shape[1:]))


class Fewest(unittest.TestCase):
    def check(self, looked, world, forms):
        self.assertTrue(is_within_bounds(forms))
        told = fewest(world, forms)
        self.assertIs(type(told), list)
        for form in told:
            self.assertTrue(plain.is_plain(world, form), form)
            self.assertLessEqual(plain.depth(form), max(map(plain.depth, forms)) + 4)
        self.assertTrue(same(world, told, forms), (world.signs, forms, told))
        bits = looked.bits_of_list(forms)
        if all(plain.depth(form) <= DEEPEST for form in told):
            self.assertEqual(looked.bits_of_list(told), bits)
        if told:
            self.assertFalse(looked.can_be_said(bits, len(told) - 1), (world.signs, forms, told))
        return told


class Examples(Fewest):
    def test_examples_of_the_document(self):
        world = World([("nil", 0), ("one", 0), ("pair", 2)])
        self.assertEqual([len(fewest(world, [("pair", "_", "_"), NIL, ONE])),
                          len(fewest(world, [("pair", NIL, "_"), ("pair", "_", NIL)])), fewest(world, [])], [1, 2, []])

    def test_the_function_stands_in_the_file(self):
        self.assertEqual(fewest.__module__, "butthese.fewest")
        self.assertIs(module.fewest, fewest)

    def test_arguments_by_their_names(self):
        self.assertEqual(fewest(forms=[NIL, NIL], world=PAIRS), [NIL])


class AllForms(Fewest):
    def test_random_lists(self):
        for seed, world in enumerate([*TIGHT_WORLDS, *WORLDS]):
            looked = Looked(world)
            forms = Forms(world, seed)
            for turn in range(40):
                passed = [forms.plain(forms.random.randint(1, 4), DEEPEST, (0.7, 0.95)[turn % 2])[0]
                          for _ in range(forms.random.randint(0, LONGEST))]
                self.check(looked, world, passed)

    def test_lists_of_forms_that_lie_side_by_side(self):
        """Forms with one first sign that differ in few parts: here fewer forms do most often."""
        for seed, world in enumerate([PAIRS, MIXED, FORKS, LONE_PAIRS, WIDE_PAIRS, FULL, WIDE_FULL, CHAIN]):
            looked = Looked(world)
            forms = Forms(world, seed + 30)
            fewer = 0
            for turn in range(60):
                name, many = max(world.signs, key=lambda sign: sign[1])
                parts = [["_", *[(below, *["_"] * number) for below, number in heads_of(world)[:3]]]] * many
                chosen = list(itertools.product(*parts))
                passed = [(name, *forms.random.choice(chosen)) for _ in range(LONGEST)]
                fewer += len(self.check(looked, world, passed)) < len(set(passed))
            self.assertGreater(fewer, 0)

    def test_all_lists_of_few_forms(self):
        for world in (TWO, WIDE, CHAIN, LONE_PAIRS):
            looked = Looked(world)
            some = looked.all_forms(world)[:9]
            for many in range(LONGEST):
                for passed in itertools.product(some, repeat=many):
                    self.check(looked, world, list(passed))

    def test_all_lists_of_forms_with_one_first_sign(self):
        """In a world of two signs, so that there are many ways to say the same."""
        looked = Looked(TRIPLES)
        forms = [("f", *parts) for parts in itertools.product(["_", A, ("f", "_", "_", "_")], repeat=3)]
        for passed in itertools.combinations(forms, 3):
            self.check(looked, TRIPLES, list(passed))
        for passed in list(itertools.combinations(forms, 4))[::9]:
            self.check(looked, TRIPLES, list(passed))

    def test_a_list_that_is_hard_to_say_with_few_forms(self):
        """All but the trees of three a and of three f: six forms fit two of the six kinds each, and three will do."""
        f = ("f", "_", "_", "_")
        cycle = [("f", A, f, "_"), ("f", "_", A, f), ("f", f, "_", A)]
        for passed in (cycle, [("f", f, A, "_"), ("f", "_", f, A), ("f", A, "_", f)], cycle[:2] + [("f", f, A, A)],
                       [*cycle, ("f", f, A, "_")], [("f", "_", f, A), *cycle]):
            told = self.check(Looked(TRIPLES), TRIPLES, passed)
            self.assertLessEqual(len(told), 3)

    def test_lists_that_the_package_told(self):
        tried = 0
        for seed, world in enumerate([PAIRS, MIXED, FORKS, LONE_PAIRS, WIDE_PAIRS, CHAIN, TWO, THREE]):
            looked = Looked(world)
            forms = Forms(world, seed + 60)
            for _ in range(30):
                first = [forms.plain(2, DEEPEST)[0] for _ in range(2)]
                lot = Lot(world, [forms.plain(3, DEEPEST)[0]])
                for told in (rest(world, first), *parted(world, first + lot.forms), lot.others().forms,
                             lot.less(Lot(world, first)).forms, fewest(world, first), first + fewest(world, first)):
                    if is_within_bounds(told):
                        self.check(looked, world, told)
                        tried += 1
        self.assertGreater(tried, 800)


class Edges(Fewest):
    def test_empty_lists(self):
        for world in [*WORLDS, *TIGHT_WORLDS]:
            self.assertEqual(fewest(world, []), [])
            self.assertIsNot(fewest(world, []), fewest(world, []))

    def test_lists_that_fit_all_trees(self):
        for world in (POINT, TWO, THREE, CHAIN, PAIRS, WIDE, WIDE_PAIRS):
            heads = [(name, *["_"] * many) for name, many in heads_of(world)]
            for passed in (heads, ["x"], ["_", *heads[:2]], heads[:1] + ["x"]):
                self.assertEqual(len(fewest(world, passed)), 1)
                self.assertTrue(same(world, fewest(world, passed), ["_"]))
        nested = [NIL, ONE, ("pair", NIL, "_"), ("pair", ONE, "_")]
        self.assertEqual(len(fewest(PAIRS, nested)), 4)
        self.assertEqual(len(fewest(PAIRS, nested[2:] + [("pair", ("pair", "_", "_"), "x")])), 1)
        self.assertEqual(len(fewest(LONE_PAIRS, [A, ("h", A, "_"), ("h", ("h", "_", "_"), "_")])), 1)
        self.assertEqual(len(fewest(LONE_PAIRS, [A, ("h", A, "_"), ("h", ("h", "_", "_"), A)])), 3)

    def test_worlds_of_one_sign(self):
        looked = Looked(POINT)
        for passed in ([NIL], ["x"], [NIL, "_", NIL], ["_", "_"]):
            self.assertEqual(len(self.check(looked, POINT, passed)), 1)
        looked = Looked(WIDE)
        self.assertEqual(len(self.check(looked, WIDE, [NIL])), 1)
        self.assertEqual(self.check(looked, WIDE, [("*",)]), [("*",)])
        self.assertEqual(len(self.check(looked, WIDE, [("*",), NIL])), 1)

    def test_finite_worlds(self):
        self.assertEqual(len(fewest(THREE, [("red",), ("green",)])), 2)
        self.assertEqual(len(fewest(THREE, [("red",), ("green",), ("blue",)])), 1)
        self.assertEqual(len(fewest(World(THREE.signs, more=True), [("red",), ("green",), ("blue",)])), 3)
        self.assertEqual(len(fewest(World(THREE.signs, more=True), [("red",), ("green",), ("blue",), ("*",)])), 1)

    def test_forms_that_are_never_reached_and_forms_put_twice(self):
        pair = ("pair", "_", "_")
        self.assertEqual(len(fewest(PAIRS, [pair, ("pair", NIL, "_"), ("pair", "x", "y")])), 1)
        self.assertEqual(fewest(PAIRS, [NIL, NIL, NIL, NIL]), [NIL])
        self.assertEqual(len(fewest(PAIRS, [("pair", NIL, "_"), pair, NIL, NIL])), 2)

    def test_a_form_that_the_others_make_needless_only_together(self):
        a, b = ("nil",), ("one",)
        passed = [("pair", a, "_"), ("pair", "_", b), ("pair", b, "_"), ("pair", ("pair", "_", "_"), "_")]
        self.assertEqual(len(fewest(PAIRS, passed)), 1)
        world = World([("a", 0), ("b", 0), ("h", 2)])
        passed = [("h", A, A), ("h", A, B), ("h", B, B), ("h", A, ("h", "_", "_"))]
        self.assertEqual(len(fewest(world, passed)), 2)
        cycle = [("f", A, "_", B), ("f", B, A, "_"), ("f", "_", B, A)]
        world = World([("a", 0), ("b", 0), ("f", 3)])
        self.assertEqual(len(fewest(world, cycle)), 3)
        overlapping = [("f", A, "_", "_"), ("f", B, A, "_"), ("f", ("f", "_", "_", "_"), A, "_")]
        self.assertEqual(len(fewest(world, overlapping)), 2)


class General(Fewest):
    def test_what_is_handed_in_stays_and_calls_can_be_made_again(self):
        for seed, world in enumerate(WORLDS):
            passed = [Forms(world, seed + 80 + at).plain(3, DEEPEST)[0] for at in range(LONGEST)]
            kept = copy.deepcopy(passed)
            first, second = fewest(world, passed), fewest(world, kept)
            self.assertEqual(first, second)
            first.append("x")
            self.assertEqual(fewest(world, passed), second)
            self.assertEqual(passed, kept)

    def test_counts_say_the_same(self):
        for seed, world in enumerate([PAIRS, MIXED, FULL]):
            forms = Forms(world, seed + 90)
            for _ in range(10):
                passed = [forms.plain(3, DEEPEST)[0] for _ in range(3)]
                for size in (1, 2, 5, 8, 40):
                    self.assertEqual(count(world, fewest(world, passed), size), count(world, passed, size))

    def test_other_names_for_the_signs(self):
        names = {"nil": "zz", "one": "aa", "pair": "mm"}
        other = World([(names[name], many) for name, many in PAIRS.signs])

        def renamed(form):
            return form if type(form) is str else (names[form[0]], *map(renamed, form[1:]))

        forms = Forms(PAIRS, 5)
        for _ in range(60):
            passed = [forms.plain(3, DEEPEST)[0] for _ in range(LONGEST)]
            self.assertEqual(len(fewest(PAIRS, passed)), len(fewest(other, list(map(renamed, passed)))))


def within_bounds(world, forms):
    """A call that is not made for lists beyond the bounds of fewest, except where it must raise an error."""
    if all(plain.is_plain(world, form) for form in forms) and not is_within_bounds(forms):
        return None
    return fewest(world, forms)


class Wrong(WrongPlainLists, unittest.TestCase):
    calls = (within_bounds,)


if __name__ == "__main__":
    unittest.main()
