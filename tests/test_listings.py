"""[5] and stage 10: listings, against plain lists with their own rows of changes."""

import copy
import unittest

from butthese import listings
from butthese.errors import BadForm, BadTree, NotThere, TooFar
from butthese.lists import missed, reached
from butthese.listings import Listing
from butthese.lots import Lot
from butthese.rests import rest
from butthese.worlds import World
import plain
from plain import (A, CHAIN, FULL, MIXED, NIL, ONE, PAIRS, PATHS, TIGHT_WORLDS, WIDE_FULL, WIDE_PAIRS, WORLDS, Forms,
                   at_place)

DEEPEST_TOLD = 300
MEMBERS = ("world", "forms", "many", "put", "drop", "gap", "dead", "which", "undo", "fork", "__eq__")


class Led:
    """A plain list, led as a listing is, with all lists that it was ahead of its calls."""

    def __init__(self):
        self.forms = []
        self.former = []

    def put(self, form):
        self.former.append(list(self.forms))
        self.forms.append(form)

    def drop(self, position):
        self.former.append(list(self.forms))
        del self.forms[position]

    def undo(self, number):
        for _ in range(number):
            self.forms = self.former.pop()

    def fork(self):
        other = Led()
        other.forms, other.former = list(self.forms), [list(forms) for forms in self.former]
        return other


def listing_of(world, forms):
    listing = Listing(world)
    for form in forms:
        listing.put(form)
    return listing


class Listings(unittest.TestCase):
    def check_tree(self, world, tree):
        self.assertTrue(plain.is_tree(world, tree), tree)
        self.assertLessEqual(plain.depth(tree), DEEPEST_TOLD)

    def check_put(self, world, listing, form, trees):
        """Put a form, and look at the tree that is told."""
        ahead = listing.forms
        told = listing.put(form)
        if told is None:
            for tree in trees:
                self.assertTrue(not plain.fits(form, tree) or any(plain.fits(other, tree) for other in ahead))
        else:
            self.check_tree(world, told)
            self.assertTrue(plain.fits(form, told), (form, told))
            self.assertFalse([other for other in ahead if plain.fits(other, told)], (ahead, form, told))
        self.assertIs(told is None, reached(world, [*ahead, form])[-1] is None)
        self.assertEqual(listing.forms, [*ahead, form])

    def check(self, world, listing, forms, trees):
        """All that a listing says of a plain list of forms."""
        self.assertIs(type(listing), Listing)
        self.assertEqual(listing.world, world)
        self.assertIs(type(listing.forms), list)
        self.assertEqual(listing.forms, forms)
        self.assertIs(type(listing.many), int)
        self.assertEqual(listing.many, len(forms))
        gap = listing.gap()
        self.assertIs(gap is None, missed(world, forms) is None)
        if gap is not None:
            self.check_tree(world, gap)
            self.assertFalse([form for form in forms if plain.fits(form, gap)], (forms, gap))
        dead = listing.dead()
        self.assertEqual(dead, [at for at, tree in enumerate(reached(world, forms)) if tree is None])
        for tree in trees:
            fitting = [at for at, form in enumerate(forms) if plain.fits(form, tree)]
            self.assertEqual(listing.which(tree), fitting[0] if fitting else None)
            self.assertFalse(fitting and fitting[0] in dead)
            self.assertFalse(not fitting and gap is None)


class Examples(Listings):
    def test_examples_of_the_document(self):
        world = World([("nil", 0), ("one", 0), ("pair", 2)])
        listing = Listing(world)
        self.assertEqual([listing.put(("pair", "_", "_")) is not None, listing.put(("pair", "x", "x")),
                          listing.put(("one",)), listing.gap(), listing.dead()], [True, None, ONE, NIL, [1]])
        self.assertEqual([listing.which(ONE), listing.which(NIL), listing.drop(0), listing.dead(), listing.undo(2),
                          listing.forms], [2, None, None, [], None, [("pair", "_", "_"), ("pair", "x", "x")]])

    def test_the_class_stands_in_the_file(self):
        self.assertEqual(Listing.__module__, "butthese.listings")
        self.assertIs(listings.Listing, Listing)
        for name in MEMBERS:
            self.assertIn(name, vars(Listing))

    def test_arguments_by_their_names(self):
        listing = Listing(world=PAIRS)
        self.assertEqual(listing.put(form=NIL), NIL)
        self.assertEqual(listing.which(tree=NIL), 0)
        listing.drop(position=0)
        listing.undo(number=1)
        self.assertEqual(listing.forms, [NIL])

    def test_a_new_listing(self):
        for world in [*WORLDS, *TIGHT_WORLDS]:
            listing = Listing(world)
            self.check(world, listing, [], plain.trees_up_to(world, 20))
            self.assertIs(listing.world, world)
            self.assertIsNone(listing.undo(0))
            self.check_tree(world, listing.gap())


class RowsOfCalls(Listings):
    def test_random_rows_of_calls(self):
        for seed, world in enumerate([*TIGHT_WORLDS, FULL, WIDE_FULL]):
            forms = Forms(world, seed)
            trees = plain.trees_up_to(world, 40)
            pairs = [(Listing(world), Led())]
            for turn in range(150):
                listing, led = forms.random.choice(pairs)
                self.call(world, forms, listing, led, trees, pairs)
                if turn % 3 == 0:
                    for told, plainly in pairs:
                        self.check(world, told, plainly.forms, trees[::2])
                    for one, first in pairs:
                        for other, second in pairs:
                            self.assertIs(one == other, first.forms == second.forms)

    def call(self, world, forms, listing, led, trees, pairs):
        """A call of any kind, of a listing and of the plain list."""
        word = forms.random.choice(["put"] * 6 + ["drop"] * 2 + ["undo", "undo", "fork", "refused"])
        if word == "put" and led.forms[6:] == []:
            form = forms.form(forms.random.randint(0, 4), 4, "xy", 0.8)[0]
            if led.forms and forms.random.random() < 0.2:
                form = forms.random.choice(led.forms)
            self.check_put(world, listing, form, trees)
            led.put(form)
        elif word == "drop" and led.forms:
            position = forms.random.randrange(len(led.forms))
            self.assertIsNone(listing.drop(position))
            led.drop(position)
        elif word == "undo":
            number = forms.random.randint(0, min(3, len(led.former)))
            self.assertIsNone(listing.undo(number))
            led.undo(number)
        elif word == "fork":
            pairs.append((listing.fork(), led.fork()))
            del pairs[:-4]
        else:
            self.refuse(listing, led)

    def refuse(self, listing, led):
        """Calls that are refused, and change nothing."""
        with self.assertRaises(BadForm):
            listing.put(("pair", "x"))
        with self.assertRaises(NotThere):
            listing.drop(len(led.forms))
        with self.assertRaises(TooFar) as caught:
            listing.undo(len(led.former) + 1)
        self.assertEqual(caught.exception.count, len(led.former))
        self.assertEqual(listing.forms, led.forms)

    def test_undo_of_all_calls_one_by_one(self):
        for seed, world in enumerate(TIGHT_WORLDS):
            forms = Forms(world, seed + 30)
            listing, led, told = Listing(world), Led(), []
            for turn in range(12):
                told.append((listing.forms, listing.gap(), listing.dead()))
                if turn % 4 == 3:
                    listing.drop(turn % listing.many)
                else:
                    listing.put(forms.form(3, 4, "xy")[0])
            again = listing.fork()
            for forms_before, gap, dead in reversed(told):
                listing.undo(1)
                self.assertEqual((listing.forms, listing.gap(), listing.dead()), (forms_before, gap, dead))
            again.undo(12)
            self.assertEqual(again, listing)
            with self.assertRaises(TooFar) as caught:
                again.undo(1)
            self.assertEqual(caught.exception.count, 0)

    def test_drops_are_taken_back_to_their_positions(self):
        forms = [NIL, ("pair", "x", "x"), ONE, ("pair", "_", NIL), NIL, "y"]
        for position in range(len(forms)):
            listing = listing_of(PAIRS, forms)
            dead = listing.dead()
            listing.drop(position)
            self.check(PAIRS, listing, forms[:position] + forms[position + 1:], [NIL, ONE])
            listing.put(ONE)
            listing.undo(2)
            self.check(PAIRS, listing, forms, [NIL, ONE])
            self.assertEqual(listing.dead(), dead)
            listing.undo(6)
            self.assertEqual(listing, Listing(PAIRS))

    def test_what_was_taken_back_is_gone(self):
        listing = listing_of(PAIRS, [NIL, ONE])
        listing.undo(1)
        listing.put("x")
        listing.undo(1)
        self.assertEqual(listing.forms, [NIL])
        with self.assertRaises(TooFar) as caught:
            listing.undo(2)
        self.assertEqual(caught.exception.count, 1)
        self.assertIsNone(listing.undo(0))
        self.assertEqual(listing.forms, [NIL])

    def test_forms_in_which_letters_stand_twice_and_forms_put_twice(self):
        h = ("h", "_", "_")
        world = World([("a", 0), ("h", 2)])
        listing = listing_of(world, [A, ("h", h, "_"), ("h", "_", h)])
        self.assertEqual(listing.gap(), ("h", A, A))
        self.assertEqual(listing.put(("h", "x", "x")), ("h", A, A))
        self.assertIsNone(listing.gap())
        for form in ("x", A, ("h", "y", "y"), ("h", "x", "x"), ("h", A, "z")):
            self.assertIsNone(listing.put(form))
        self.assertEqual(listing.dead(), [4, 5, 6, 7, 8])
        listing.drop(3)
        self.assertEqual(listing.dead(), [4, 5, 6, 7])
        self.assertEqual(listing.which(("h", A, A)), 3)


class Forks(Listings):
    def test_a_fork_goes_on_by_itself(self):
        listing = listing_of(PAIRS, [NIL, ("pair", "x", "x")])
        listing.drop(0)
        fork = listing.fork()
        self.assertIsNot(fork, listing)
        self.assertEqual(fork, listing)
        self.assertEqual(listing.put(ONE), ONE)
        fork.put(NIL)
        fork.put("x")
        self.check(PAIRS, listing, [("pair", "x", "x"), ONE], [NIL, ONE])
        self.check(PAIRS, fork, [("pair", "x", "x"), NIL, "x"], [NIL, ONE])
        fork.undo(5)
        self.check(PAIRS, fork, [], [NIL])
        self.check(PAIRS, listing, [("pair", "x", "x"), ONE], [NIL, ONE])
        listing.undo(2)
        self.check(PAIRS, listing, [NIL, ("pair", "x", "x")], [NIL])
        with self.assertRaises(TooFar) as caught:
            fork.undo(1)
        self.assertEqual(caught.exception.count, 0)

    def test_a_fork_of_a_fork(self):
        first = listing_of(MIXED, [A, ("g", "x")])
        second = first.fork()
        third = second.fork()
        first.undo(2)
        second.undo(1)
        self.assertEqual([first.forms, second.forms, third.forms], [[], [A], [A, ("g", "x")]])
        third.undo(2)
        self.assertEqual(third, first)


class Equal(Listings):
    def test_equal_listings(self):
        one, other = listing_of(PAIRS, [NIL, "x"]), listing_of(World(list(PAIRS.signs)), [ONE, NIL, "x"])
        self.assertNotEqual(one, other)
        other.drop(0)
        self.assertTrue(one == other and other == one and not one != other)
        self.assertFalse(one == listing_of(PAIRS, ["x", NIL]))
        self.assertFalse(one == listing_of(PAIRS, [NIL, "y"]))
        self.assertFalse(one == listing_of(PAIRS, [NIL, "_"]))
        self.assertFalse(one == listing_of(World(PAIRS.signs, more=True), [NIL, "x"]))
        self.assertFalse(one == listing_of(World([("one", 0), ("nil", 0), ("pair", 2)]), [NIL, "x"]))
        self.assertTrue(Listing(PAIRS) == Listing(PAIRS))
        self.assertFalse(listing_of(PAIRS, ["nil"]) == listing_of(PAIRS, [NIL]))

    def test_any_value(self):
        listing = Listing(PAIRS)
        for value in [*plain.anything(), [], PAIRS, Lot(PAIRS, []), listing.forms, (listing,), [listing]]:
            self.assertIs(listing == value, False)
            self.assertIs(listing != value, True)


class General(Listings):
    def test_lists_are_new(self):
        listing = listing_of(PAIRS, [NIL, NIL, ("pair", "x", "x")])
        kept = copy.deepcopy((listing.forms, listing.dead()))
        for told in (listing.forms, listing.dead()):
            told.append("x")
            told.clear()
        self.assertEqual((listing.forms, listing.dead()), kept)
        self.assertIsNot(listing.forms, listing.forms)
        self.assertIsNot(listing.dead(), listing.dead())

    def test_questions_change_nothing_and_can_be_asked_again(self):
        for seed, world in enumerate(TIGHT_WORLDS):
            forms = Forms(world, seed + 50)
            passed = forms.list(7, 16)
            listing, other = listing_of(world, passed), listing_of(world, passed)
            trees = plain.trees_up_to(world, 10)
            for _ in range(2):
                self.assertEqual(listing.gap(), other.gap())
                self.assertEqual(listing.dead(), other.dead())
                self.assertEqual([listing.which(tree) for tree in trees], [other.which(tree) for tree in trees])
                self.assertEqual([listing.many, listing.forms], [len(passed), passed])
            form = forms.form(3)[0]
            told = listing.put(form)
            listing.undo(1)
            self.assertEqual(listing.put(form), told)
            listing.undo(1)
            listing.undo(len(passed))
            with self.assertRaises(TooFar):
                listing.undo(1)

    def test_properties_are_not_set(self):
        listing = Listing(PAIRS)
        for name in ("world", "forms", "many"):
            with self.assertRaises(AttributeError):
                setattr(listing, name, 1)

    def test_told_lists_and_told_trees(self):
        for seed, world in enumerate([PAIRS, WIDE_PAIRS, CHAIN]):
            passed = Forms(world, seed + 70).plain_list(3, 6, 0.9)
            told = rest(world, passed)
            listing = listing_of(world, told + passed)
            self.assertIsNone(listing.gap())
            self.assertEqual([at for at in listing.dead() if at < len(told)], [])
            listing.undo(len(passed))
            self.assertIs(listing.gap() is None, missed(world, told) is None)
        tree = plain.chain(250)
        listing = listing_of(CHAIN, rest(CHAIN, [tree]))
        self.assertEqual([listing.gap(), listing.put("x")], [tree, tree])
        self.assertEqual(listing.which(tree), 251)

    def test_great_told_lists(self):
        told = rest(WIDE_FULL, [at_place(path, A) for path in PATHS[:4]])
        self.assertGreater(len(told), 2500)
        listing = listing_of(WIDE_FULL, told)
        self.assertEqual(listing.dead(), [])
        fork = listing.fork()
        self.assertEqual(fork, listing)
        gap = listing.gap()
        self.assertTrue(any(plain.fits(at_place(path, A), gap) for path in PATHS[:4]))
        listing.drop(7)
        self.assertEqual(listing.which(plain.fillings(WIDE_FULL, told[7])[0]), None)
        listing.undo(len(told) + 1)
        self.assertEqual(listing.forms, [])
        self.assertIsNone(fork.put(told[7]))

    def test_deep_forms(self):
        """Listings of trees that are deeper than Python compares by itself."""
        tree, form = plain.chain(3000), "x"
        for _ in range(3000):
            form = ("next", form)
        one, other = Listing(CHAIN), Listing(CHAIN)
        self.assertEqual(CHAIN.size(one.put(tree)), 3001)
        one.drop(0)
        self.assertEqual(one.which(tree), None)
        for listing in (one, other):
            listing.put(plain.chain(2999))
            listing.put(form)
        self.assertTrue(one == other)
        self.assertEqual([one.which(tree), one.which(plain.chain(2999))], [1, 0])
        self.assertEqual(one.fork().many, 2)

    def test_listings_say_what_lists_say(self):
        for seed, world in enumerate([*WORLDS, *TIGHT_WORLDS]):
            forms = Forms(world, seed + 90)
            for _ in range(4):
                passed = forms.list(7, 16, "xy", 0.8)
                listing = Listing(world)
                trees = [listing.put(form) for form in passed]
                self.assertEqual([tree is None for tree in trees], [tree is None for tree in reached(world, passed)])
                self.assertEqual(listing.dead(), [at for at, tree in enumerate(trees) if tree is None])
                self.assertIs(listing.gap() is None, missed(world, passed) is None)


class Wrong(Listings):
    def check_unchanged(self, listing, forms, calls):
        self.assertEqual(listing.forms, forms)
        with self.assertRaises(TooFar) as caught:
            listing.undo(calls + 1)
        self.assertIs(type(caught.exception), TooFar)
        self.assertEqual(caught.exception.count, calls)

    def test_bad_forms(self):
        for world in (PAIRS, FULL, WIDE_FULL):
            listing = listing_of(world, ["x"])
            for value in [*plain.anything(), listing, [listing], Lot(PAIRS, [NIL]), ("pair", "x"), ("*", 0)]:
                with self.assertRaises(BadForm) as caught:
                    listing.put(value)
                self.assertIs(type(caught.exception), BadForm)
                self.assertIs(caught.exception.value, value)
            self.check_unchanged(listing, ["x"], 1)
        with self.assertRaises(BadForm):
            Listing(PAIRS).put(("*",))

    def test_forms_with_parts_changed(self):
        for seed, world in enumerate(TIGHT_WORLDS):
            listing = Listing(world)
            for value in plain.changed(Forms(world, seed).form(4, names="xy", eager=0.9)[0]):
                if plain.is_form(world, value):
                    listing.put(value)
                    self.assertEqual(listing.forms, [value])
                    listing.undo(1)
                else:
                    with self.assertRaises(BadForm) as caught:
                        listing.put(value)
                    self.assertIs(caught.exception.value, value)
            self.check_unchanged(listing, [], 0)

    def test_positions(self):
        listing = listing_of(PAIRS, [NIL, "x", ONE])
        values = [3, 4, 10 ** 59, -1, -2, -3, -10 ** 59, True, False, None, "0", "x", (0,), [0], {0: 0}, (1, [2]), [],
                  (), {}, NIL, listing, PAIRS, [[[]]], *[value for value in plain.anything() if value not in (0, 1)]]
        for value in values:
            with self.assertRaises(NotThere) as caught:
                listing.drop(value)
            self.assertIs(type(caught.exception), NotThere)
            self.assertIs(caught.exception.value, value)
        self.check_unchanged(listing, [NIL, "x", ONE], 3)
        with self.assertRaises(NotThere):
            Listing(PAIRS).drop(0)

    def test_bad_trees(self):
        listing = listing_of(PAIRS, ["x", NIL])
        for value in [*plain.anything(), "x", "_", ("pair", "x", NIL), ("*", 0), listing, [NIL], (NIL,), PAIRS]:
            with self.assertRaises(BadTree) as caught:
                listing.which(value)
            self.assertIs(type(caught.exception), BadTree)
            self.assertIs(caught.exception.value, value)
            with self.assertRaises(BadTree):
                Listing(PAIRS).which(value)
        self.check_unchanged(listing, ["x", NIL], 2)
        for value in plain.changed(plain.trees_up_to(MIXED, 60)[-1]):
            if plain.is_tree(MIXED, value):
                self.assertIsNone(Listing(MIXED).which(value))
            else:
                with self.assertRaises(BadTree) as caught:
                    Listing(MIXED).which(value)
                self.assertIs(caught.exception.value, value)

    def test_too_far(self):
        listing = listing_of(PAIRS, [NIL, ONE])
        listing.drop(1)
        for number in (4, 5, 10 ** 59):
            with self.assertRaises(TooFar) as caught:
                listing.undo(number)
            self.assertEqual(caught.exception.count, 3)
            self.assertEqual(listing.forms, [NIL])
        listing.undo(3)
        self.assertEqual(listing.forms, [])


if __name__ == "__main__":
    unittest.main()
