"""[1] to [8] over the whole program: calls of all stages by turns, and whether they say the same."""

import copy
import unittest

from butthese.counts import count, place_of, tree_at
from butthese.errors import FormError
from butthese.fewest import fewest
from butthese.lists import missed, reached, same, unlike_tree
from butthese.listings import Listing
from butthese.lots import Lot
from butthese.matching import become, fit
from butthese.rests import parted, rest, shared
from butthese.sayings import against, holds, is_condition, letters_of
from butthese.solving import answer, follows, say_same
from butthese.texts import form_text, read_form, read_tree
from butthese.worlds import World
import plain
from plain import (CHAIN, FORKS, FULL, LONE_PAIRS, MIXED, PAIRS, POINT, THREE, TIGHT_WORLDS, TRIPLES, TWO, WIDE_FULL,
                   WORLDS, Forms)

MOST_SIGNS_OF_TEXTS = 800
MOST_SIGNS_PASSED = 48
DEEPEST_TOLD = 300
NAMES = ["sign", "other", "a", "b", "zzzzzzzz", "letter"]


def renamed(value, names):
    """A form, a tree, a condition, or a list, tuple or dict of such, with other names for the signs."""
    if type(value) is dict:
        return {name: renamed(value[name], names) for name in value}
    if type(value) is list:
        return [renamed(entry, names) for entry in value]
    if type(value) is not tuple:
        return value
    parts = [renamed(part, names) for part in value[1:]]
    return (names.get(value[0], value[0]) if type(value[0]) is str else renamed(value[0], names), *parts)


class Passed:
    """Arguments for calls of all stages, the same ones for the same seed."""

    def __init__(self, world, seed):
        forms = Forms(world, seed)
        trees = plain.trees_up_to(world, 30)
        self.plain, self.other = forms.plain_list(4, 8), forms.plain_list(4, 8)
        self.flat = [forms.plain(3, 2)[0] for _ in range(4)]
        self.forms, self.others = forms.list(5, 12), forms.list(5, 12)
        self.trees = [forms.random.choice(trees) for _ in range(4)]
        self.form = forms.form(4)[0]
        self.bare = forms.bare(3, "xy")
        self.saying, self.second = forms.saying(4), forms.saying(3)
        self.condition = forms.condition()

    def renamed(self, names):
        told = copy.copy(self)
        for name, value in vars(self).items():
            setattr(told, name, renamed(value, names))
        return told


def calls(passed):
    """Calls of all stages, each a function of a world, by name."""
    one, tree, more = passed.plain, passed.trees[0], passed.trees[1]
    values = {"x": tree, "y": more}
    told = {
        "is_tree": lambda world: [world.is_tree(each) for each in passed.forms + passed.trees],
        "is_form": lambda world: [world.is_form(each) for each in passed.forms + passed.trees],
        "is_plain": lambda world: [world.is_plain(each) for each in passed.forms + passed.trees],
        "endless": lambda world: [world.endless, world.more],
        "size": lambda world: [world.size(each) for each in passed.trees],
        "before": lambda world: [world.before(each, tree) for each in passed.trees],
        "fit": lambda world: fit(world, passed.form, tree),
        "become": lambda world: become(world, passed.bare, values),
        "rest": lambda world: rest(world, one),
        "shared": lambda world: [shared(world, each, "x") for each in one],
        "parted": lambda world: parted(world, one),
        "missed": lambda world: missed(world, passed.forms),
        "reached": lambda world: reached(world, passed.forms),
        "unlike_tree": lambda world: unlike_tree(world, passed.forms, passed.others),
        "same": lambda world: same(world, passed.forms, passed.others),
        "fewest": lambda world: fewest(world, passed.flat),
        "letters_of": lambda world: letters_of(passed.saying),
        "holds": lambda world: [holds(world, [each], values) for each in passed.saying],
        "against": lambda world: [is_condition(world, against(each)) for each in passed.saying],
        "answer": lambda world: answer(world, passed.saying),
        "follows": lambda world: follows(world, passed.saying, passed.condition),
        "say_same": lambda world: say_same(world, passed.saying, passed.second),
        "texts": lambda world: [form_text(each) for each in passed.forms + passed.trees],
        "read": lambda world: [read_form(world, form_text(each)) for each in passed.forms]
        + [read_tree(world, form_text(each)) for each in passed.trees],
        "wrong": lambda world: [error_of(call, world) for call in wrong_calls(passed)],
    }
    told["lot"] = lambda world: asked_of_lots(Lot(world, one), Lot(world, passed.other), passed.trees)
    told["listing"] = lambda world: asked_of_listing(Listing(world), passed)
    told["counts"] = lambda world: None if world.more else asked_of_counts(world, one)
    return told


def asked_of_lots(lot, other, trees):
    lots = [lot, lot.joined(other), lot.both(other), lot.less(other), lot.others()]
    return [[each.forms, each.is_empty(), each.within(other), each.same_as(other), [each.has(tree) for tree in trees]]
            for each in lots]


def asked_of_listing(listing, passed):
    told = [listing.put(form) for form in passed.forms]
    told += [listing.gap(), listing.dead(), listing.many, [listing.which(tree) for tree in passed.trees]]
    fork = listing.fork()
    if fork.many:
        fork.drop(0)
        told += [fork.gap(), fork.dead(), fork.forms, fork == listing]
        fork.undo(2)
    return told + [listing.forms, fork.forms]


def asked_of_counts(world, forms):
    sizes = [1, 2, 3, 7, 30]
    told = [count(world, forms, size) for size in sizes]
    trees = [tree_at(world, forms, number) for number in (0, 1, 5, 10 ** 9)]
    return told + trees + [None if tree is None else place_of(world, forms, tree) for tree in trees]


def wrong_calls(passed):
    bad, double = [*passed.forms, None], ("h", "x", "x")
    return [lambda world: rest(world, bad), lambda world: rest(world, [double, *bad]),
            lambda world: missed(world, bad), lambda world: fewest(world, bad), lambda world: count(world, bad, 3),
            lambda world: Lot(world, bad), lambda world: Listing(world).put(bad), lambda world: Listing(world).drop(0),
            lambda world: Listing(world).undo(1), lambda world: answer(world, [*passed.saying, bad]),
            lambda world: read_form(world, "(*"), lambda world: fit(world, bad, bad),
            lambda world: become(world, "_", {}), lambda world: world.size(None), lambda world: world.before(None, 5),
            lambda world: World([("a", 0), ("a", 0)])]


def error_of(call, world):
    """Which error a call raises, and what the error keeps."""
    try:
        call(world)
    except FormError as error:
        return type(error).__name__, vars(error)
    return None


def so_and_how_many(value):
    """Of what is told all numbers, whether something is so, and whether there is something."""
    if type(value) in (bool, int) or value is None:
        return value
    if type(value) is list:
        return list(map(so_and_how_many, value))
    return "something"


class ByTurns(unittest.TestCase):
    def test_one_world_for_all_calls(self):
        """It stays as it was, and tells what a new world tells, whatever was called before."""
        for seed, world in enumerate([*WORLDS, *TIGHT_WORLDS]):
            kept = World(world.signs, more=world.more)
            passed = [Passed(world, seed + 100 * turn) for turn in range(3)]
            before = copy.deepcopy([vars(each) for each in passed])
            order = [(turn, name) for turn in range(3) for name in calls(passed[turn])]
            Forms(world, seed).random.shuffle(order)
            for turn, name in order + order[::5]:
                new = World(list(world.signs), more=world.more)
                told = calls(passed[turn])[name](world)
                self.assertEqual(told, calls(passed[turn])[name](new), (world.signs, name))
            self.assertEqual(world, kept)
            self.assertEqual((world.signs, world.more, world.endless), (kept.signs, kept.more, kept.endless))
            self.assertEqual([vars(each) for each in passed], before)

    def test_other_names_for_the_signs(self):
        for seed, world in enumerate([*WORLDS, *TIGHT_WORLDS]):
            names = dict(zip([name for name, _ in world.signs], NAMES))
            other = World([(names[name], many) for name, many in world.signs], more=world.more)
            for turn in range(3):
                passed = Passed(world, seed + 500 + turn)
                there = calls(passed.renamed(names))
                for name, call in calls(passed).items():
                    if name not in ("texts", "wrong", "rest", "parted", "lot"):
                        self.assertEqual(so_and_how_many(call(world)), so_and_how_many(there[name](other)), name)
                self.assertIs(same(other, renamed(rest(world, passed.plain), names),
                                   rest(other, renamed(passed.plain, names))), True)


class SayTheSame(unittest.TestCase):
    def test_a_form_is_reached_just_if_a_saying_can_hold(self):
        for seed, world in enumerate([*TIGHT_WORLDS, FULL, WIDE_FULL]):
            forms = Forms(world, seed)
            for turn in range(40):
                passed = forms.list(6, 12, ("x", "xy")[turn % 2], 0.85)
                listing = Listing(world)
                for at, form in enumerate(passed):
                    saying = [("fits", "t", form)] + [("misses", "t", other) for other in passed[:at]]
                    told = answer(world, saying)
                    self.assertIs(told is None, listing.put(form) is None, (world.signs, passed, at))
                    if told is not None:
                        self.assertEqual(listing.which(told["t"]), at)
                told = answer(world, [("misses", "t", form) for form in passed])
                self.assertIs(told is None, listing.gap() is None and bool(passed))
                self.assertIs(told is None, missed(world, passed) is None)
                if passed:
                    self.assertIs(follows(world, [("misses", "t", form) for form in passed[1:]],
                                          ("fits", "t", passed[0])), missed(world, passed) is None)

    def test_lists_that_are_the_same_just_if_sayings_say_it(self):
        for seed, world in enumerate([*TIGHT_WORLDS, FULL, WIDE_FULL]):
            forms = Forms(world, seed + 20)
            for turn in range(25):
                first, second = forms.list(3, 6, "x"), forms.list(3, 6, "x")
                if turn % 3 == 0:
                    second = second + first[::-1]
                if turn % 6 == 0:
                    second = second[1:] + [form for form in first[:1]]
                sayings = [[("misses", "t", form) for form in passed] for passed in (first, second)]
                letters = [("alike", "t", "t")]
                self.assertIs(say_same(world, sayings[0] + letters, sayings[1] + letters), same(world, first, second))

    def test_plain_lists(self):
        """Rests, lots, lists, listings, counts and fewest of the same plain forms."""
        for seed, world in enumerate([*WORLDS, *TIGHT_WORLDS]):
            forms = Forms(world, seed + 40)
            for _ in range(12):
                first, second = forms.plain_list(4, 8), forms.plain_list(4, 8)
                one, other = Lot(world, first), Lot(world, second)
                self.assertIs(one.same_as(other), same(world, first, second))
                self.assertIs(one.others().is_empty(), missed(world, first) is None)
                self.assertEqual([part == [] for part in parted(world, first)],
                                 [tree is None for tree in reached(world, first)])
                self.assertTrue(Lot(world, rest(world, first)).same_as(one.others()))
                tree = unlike_tree(world, first, second)
                if tree is not None:
                    self.assertNotEqual(one.has(tree), other.has(tree))
                    listings = [Listing(world), Listing(world)]
                    for listing, passed in zip(listings, (first, second)):
                        for form in passed:
                            listing.put(form)
                    self.assertNotEqual(listings[0].which(tree) is None, listings[1].which(tree) is None)
                for form in first[:1]:
                    for against_it in second[:2]:
                        both = Lot(world, [form]).both(Lot(world, [against_it]))
                        told = shared(world, form, against_it)
                        self.assertTrue(both.same_as(Lot(world, [] if told is None else [told])))
                flat = [forms.plain(3, 2)[0] for _ in range(4)]
                self.assertTrue(Lot(world, flat).same_as(Lot(world, fewest(world, flat))))

    def test_counts(self):
        for seed, world in enumerate([POINT, TWO, THREE, CHAIN, TRIPLES, LONE_PAIRS, PAIRS, MIXED, FORKS, FULL]):
            forms = Forms(world, seed + 60)
            for _ in range(8):
                first, second = forms.plain_list(4, 8), forms.plain_list(4, 8)
                one, other = Lot(world, first), Lot(world, second)
                for size in (1, 2, 3, 4, 11, 60):
                    mine, whole = count(world, first, size), count(world, ["_"], size)
                    self.assertEqual(mine + count(world, rest(world, first), size), whole)
                    self.assertEqual(sum(count(world, part, size) for part in parted(world, first)), mine)
                    self.assertEqual(sum(count(world, [form], size) for form in one.forms), mine)
                    self.assertEqual(count(world, one.joined(other).forms, size) +
                                     count(world, one.both(other).forms, size),
                                     mine + count(world, second, size))
                    self.assertEqual(count(world, first + second, size), count(world, one.joined(other).forms, size))
                told = tree_at(world, first, 0)
                self.assertIs(told is None, one.is_empty())
                if told is not None:
                    self.assertTrue(one.has(told) and place_of(world, one.forms, told) == 0)

    def test_matching_and_sayings(self):
        for seed, world in enumerate(TIGHT_WORLDS):
            forms = Forms(world, seed + 80)
            for tree in plain.trees_up_to(world, 60):
                form, bare = forms.form(4)[0], forms.bare(3, "xy")
                told = fit(world, form, tree)
                self.assertIs(told is not None, holds(world, [("fits", "t", form)], {"t": tree}))
                values = fit(world, bare, tree)
                if values is not None:
                    self.assertEqual(become(world, bare, values), tree)
                    self.assertTrue(holds(world, [("alike", "t", bare)], {**values, "t": tree}))
                tree_form = [form for form in (tree,) if world.is_form(form)]
                for each in tree_form:
                    self.assertEqual(read_form(world, form_text(each)), read_tree(world, form_text(tree)))


class Bounds(unittest.TestCase):
    def check(self, world, passed, forms, trees):
        """What was told of some forms that were passed."""
        deepest = max(map(plain.depth, passed), default=0)
        short = sum(map(plain.signs_in, passed)) <= MOST_SIGNS_PASSED
        for form in forms:
            self.assertTrue(plain.is_form(world, form))
            self.assertLessEqual(plain.depth(form), deepest + 4)
            if short:
                self.assertLessEqual(len(form_text(form)), MOST_SIGNS_OF_TEXTS)
        for tree in trees:
            if tree is not None:
                self.assertTrue(plain.is_tree(world, tree))
                self.assertLessEqual(plain.depth(tree), DEEPEST_TOLD)

    def test_what_is_told(self):
        for seed, world in enumerate([*WORLDS, *TIGHT_WORLDS]):
            forms = Forms(world, seed + 95)
            for _ in range(6):
                first, second, doubles = forms.plain_list(), forms.plain_list(), forms.list(7, 16)
                one, other = Lot(world, first), Lot(world, second)
                for lot in (one.others(), one.joined(other), one.both(other), one.less(other)):
                    self.check(world, first + second, lot.forms[::3], [])
                self.check(world, first, rest(world, first)[::3], [missed(world, first)])
                listing = Listing(world)
                trees = [listing.put(form) for form in doubles]
                self.check(world, doubles, listing.forms, [*trees, listing.gap()])
                told = rest(world, first)[:200]
                self.check(world, first + doubles, [], [missed(world, told + doubles), *reached(world, told + doubles)])
                saying = forms.saying(6, "xyz")
                self.check(world, [], [], (answer(world, saying) or {}).values())

    def test_chains_of_calls_of_lots(self):
        """Lots that are told of told ones: however long the chain, what is passed stays the same."""
        for seed, world in enumerate(TIGHT_WORLDS):
            forms = Forms(world, seed + 195)
            passed = [forms.plain_list(3, 4) for _ in range(4)]
            lots = [Lot(world, each) for each in passed]
            for _ in range(12):
                one, other = forms.random.choice(lots), forms.random.choice(lots)
                lot = forms.random.choice([one.joined(other), one.both(other), one.less(other), one.others()])
                if len(lot.forms) < 100:
                    lots.append(lot)
                    self.check(world, [form for each in passed for form in each], lot.forms, [])


if __name__ == "__main__":
    unittest.main()
