"""[1], [2], [3] and [4] as far as World goes."""

import copy
import itertools
import unittest

from butthese.errors import BadSigns, BadTree
from butthese.worlds import World
import plain
from plain import CHAIN, FULL, PAIRS, POINT, THREE, WIDE, WIDE_FULL, WIDE_PAIRS, WORLDS, Forms


class Examples(unittest.TestCase):
    def test_examples_of_the_document(self):
        world = World([("nil", 0), ("one", 0), ("pair", 2)])
        wide = World([("nil", 0)], more=True)
        self.assertEqual(
            [world.is_tree(("pair", ("nil",), ("one",))), world.is_tree(("*", 3)), wide.is_tree(("*", 3)),
             world.is_form(("pair", "_", "x")), world.is_plain(("pair", "x", "x"))],
            [True, False, True, True, False])
        self.assertEqual(
            [world.size(("pair", ("nil",), ("one",))), world.before(("one",), ("pair", ("nil",), ("nil",))),
             world.endless, World([("nil", 0)]).endless, wide.before(("nil",), ("*", 0))],
            [3, True, True, False, True])
        with self.assertRaises(BadTree) as caught:
            world.size(("nil", ("nil",)))
        self.assertEqual(caught.exception.value, ("nil", ("nil",)))


class Signs(unittest.TestCase):
    def bad(self, value):
        for more in (False, True):
            with self.assertRaises(BadSigns) as caught:
                World(value, more=more)
            self.assertIs(caught.exception.value, value)

    def test_signs_as_the_document_says(self):
        for signs in ([("a", 0)], [("abcdefgh", 0)], [("z", 0), ("y", 1), ("x", 2), ("w", 3)],
                      [("x", 3), ("a", 0)], [(name, 0) for name in "abcdef"], [("a", 3), ("b", 3), ("c", 0)]):
            self.assertEqual(World(signs).signs, tuple(signs))
            self.assertEqual(World(tuple(signs)).signs, tuple(signs))
            self.assertIs(type(World(signs).signs), tuple)

    def test_any_value_that_is_not_a_list_of_signs(self):
        for value in plain.anything():
            self.bad(value)
        for value in ("nil", {("nil", 0): 1}, (("nil", 0), None), [["nil", 0]], [("nil", 0), ["one", 0]], [("nil",)],
                      [("nil", 0, 0)], [(0, "nil")], [()], ("nil", 0), [[("nil", 0)]], [PAIRS], PAIRS.signs + (1,)):
            self.bad(value)

    def test_how_many_signs(self):
        self.bad([])
        self.bad(())
        self.bad([(name, 0) for name in "abcdefg"])

    def test_names(self):
        for name in ("", "A", "aB", "a1", "a b", "a_", "_", "*", "abcdefghi", "a\n", "\n", " a", None, 1, True, b"a",
                     ("a",), ["a"], {}, PAIRS, "\u00e9", "\u00df"):
            self.bad([("nil", 0), (name, 0)])
            self.bad([(name, 0), ("nil", 0)])

    def test_numbers_of_parts(self):
        for number in (-1, 4, 10 ** 40, True, False, None, "0", "", (), [0], PAIRS):
            self.bad([("nil", 0), ("a", number)])
            self.bad([("a", number), ("nil", 0)])

    def test_different_names(self):
        self.bad([("nil", 0), ("nil", 0)])
        self.bad([("nil", 0), ("a", 1), ("nil", 2)])

    def test_one_sign_has_no_parts(self):
        self.bad([("a", 1)])
        self.bad([("a", 3), ("b", 2), ("c", 1)])

    def test_more_is_passed_by_name_only(self):
        with self.assertRaises(TypeError):
            World([("nil", 0)], True)
        self.assertIs(World(signs=[("nil", 0)], more=True).more, True)
        self.assertIs(World(signs=[("nil", 0)]).more, False)
        self.assertIs(World([("nil", 0)], more=False).more, False)

    def test_endless(self):
        told = [world.endless for world in WORLDS]
        self.assertEqual(told, [world.more or any(many for _, many in world.signs) for world in WORLDS])
        self.assertTrue(all(type(value) is bool for value in told))

    def test_what_is_handed_in_is_copied_and_stays(self):
        signs = [("nil", 0), ("pair", 2)]
        world = World(signs)
        self.assertEqual(signs, [("nil", 0), ("pair", 2)])
        signs[1] = ("one", 1)
        signs.append(("two", 2))
        self.assertEqual(world.signs, (("nil", 0), ("pair", 2)))
        self.assertTrue(world.is_tree(("pair", ("nil",), ("nil",))))
        self.assertFalse(world.is_tree(("one", ("nil",))))

    def test_properties_are_not_set(self):
        for name in ("signs", "more", "endless"):
            with self.assertRaises(AttributeError):
                setattr(World([("nil", 0)]), name, 1)


class Equal(unittest.TestCase):
    def test_equal_worlds(self):
        for world in WORLDS:
            self.assertTrue(world == world)
            self.assertTrue(world == World(list(world.signs), more=world.more))
            self.assertFalse(world != World(world.signs, more=world.more))

    def test_other_worlds(self):
        for one, other in itertools.permutations(WORLDS, 2):
            self.assertFalse(one == other)
            self.assertTrue(one != other)
        self.assertNotEqual(World([("a", 0)]), World([("a", 0)], more=True))
        self.assertNotEqual(World([("a", 0), ("b", 0)]), World([("b", 0), ("a", 0)]))
        self.assertNotEqual(World([("a", 0), ("b", 1)]), World([("a", 0), ("b", 2)]))
        self.assertNotEqual(World([("a", 0), ("b", 1)]), World([("a", 0), ("c", 1)]))
        self.assertNotEqual(World([("a", 0)]), World([("a", 0), ("b", 1)]))

    def test_any_other_value(self):
        for value in [None, 0, True, "nil", (), [], {}, PAIRS.signs, list(PAIRS.signs), BadTree(PAIRS), [PAIRS]]:
            self.assertIs(PAIRS == value, False)
            self.assertIs(value == PAIRS, False)
            self.assertIs(PAIRS != value, True)


class AnyValue(unittest.TestCase):
    def check(self, world, value):
        self.assertIs(world.is_tree(value), plain.is_tree(world, value))
        self.assertIs(world.is_form(value), plain.is_form(world, value))
        self.assertIs(world.is_plain(value), plain.is_plain(world, value))
        if not plain.is_tree(world, value):
            for call in (lambda: world.size(value), lambda: world.before(value, value),
                         lambda: world.before(value, None), lambda: world.before(("nil",), value)):
                if world.is_tree(("nil",)):
                    with self.assertRaises(BadTree) as caught:
                        call()
                    self.assertIs(caught.exception.value, value)

    def test_values_of_all_kinds(self):
        for world in WORLDS:
            for value in plain.anything():
                self.assertIs(world.is_tree(value), False)
                self.check(world, value)

    def test_names_as_letters(self):
        for value in ("x", "abcdefgh", "nil", "pair"):
            self.assertTrue(PAIRS.is_form(value))
            self.assertTrue(PAIRS.is_plain(value))
            self.assertFalse(PAIRS.is_tree(value))
        for value in ("", "abcdefghi", "x1", "X", "__", "x_", "*", "x\n", "\u00e9"):
            self.assertFalse(PAIRS.is_form(value))
            self.assertFalse(PAIRS.is_form(("pair", "x", value)))

    def test_trees_with_parts_changed(self):
        for world in WORLDS:
            for tree in plain.small_trees(world, 5)[:60]:
                for value in [tree, *plain.changed(tree)]:
                    self.check(world, value)

    def test_forms_with_parts_changed(self):
        for world in WORLDS:
            forms = Forms(world, 5)
            for _ in range(60):
                form, _ = forms.form(8)
                for value in [form, *plain.changed(form)]:
                    self.check(world, value)

    def test_further_leaves(self):
        for value in (("*", 0), ("*", 10 ** 60)):
            self.assertEqual([world.is_tree(value) for world in WORLDS], [world.more for world in WORLDS])
            self.assertFalse(any(world.is_form(value) for world in WORLDS))
        self.assertEqual([world.is_form(("*",)) for world in WORLDS], [world.more for world in WORLDS])
        self.assertEqual([world.is_plain(("*",)) for world in WORLDS], [world.more for world in WORLDS])
        self.assertFalse(any(world.is_tree(("*",)) for world in WORLDS))
        for value in (("*", -1), ("*", True), ("*", False), ("*", "0"), ("*", 0, 0), ["*", 0], ("*", None), ("*", (0,))):
            self.assertFalse(WIDE.is_tree(value))
            self.assertFalse(WIDE_PAIRS.is_tree(("pair", value, ("nil",))))

    def test_lists_in_place_of_tuples(self):
        self.assertFalse(PAIRS.is_tree(["nil"]))
        self.assertFalse(PAIRS.is_tree(["pair", ("nil",), ("nil",)]))
        self.assertFalse(PAIRS.is_form(["pair", "x", "y"]))
        self.assertFalse(PAIRS.is_form(("pair", ["nil"], "y")))
        self.assertFalse(WIDE.is_form(["*"]))

    def test_values_stay_as_they_were(self):
        for value in [["nil"], ("pair", ["nil"], {"x": []}), {"x": ("nil",)}]:
            kept = copy.deepcopy(value)
            self.check(PAIRS, value)
            self.assertEqual(value, kept)


class Forms4(unittest.TestCase):
    def test_letters_that_stand_twice(self):
        for form, told in ((("pair", "x", "y"), True), (("pair", "x", "x"), False), (("pair", "_", "_"), True),
                           (("pair", ("pair", "x", "_"), ("pair", "_", "x")), False), ("x", True), ("_", True),
                           (("pair", ("nil",), ("nil",)), True), (("pair", "x", ("pair", "y", "x")), False),
                           (("pair", "nil", ("nil",)), True), (("pair", "x", "xx"), True)):
            self.assertTrue(PAIRS.is_form(form))
            self.assertIs(PAIRS.is_plain(form), told)

    def test_numbers_of_parts(self):
        for form in (("nil", "x"), ("pair",), ("pair", "x"), ("pair", "x", "y", "z"), ("one", ()), ("x", "x")):
            self.assertFalse(PAIRS.is_form(form))

    def test_any_depth(self):
        form = tree = ("zero",)
        letter = "x"
        for _ in range(20000):
            tree = ("next", tree)
            letter = ("next", letter)
        self.assertTrue(CHAIN.is_tree(tree) and CHAIN.is_form(tree) and CHAIN.is_plain(tree))
        self.assertTrue(CHAIN.is_form(letter) and CHAIN.is_plain(letter))
        self.assertFalse(CHAIN.is_tree(letter))
        self.assertEqual(CHAIN.size(tree), 20001)
        self.assertTrue(CHAIN.before(form, tree))
        self.assertFalse(CHAIN.before(tree, tree))
        for bottom in (("one",), None, ["zero"], ("zero", "x"), "X"):
            value = bottom
            for _ in range(20000):
                value = ("next", value)
            self.assertFalse(CHAIN.is_tree(value) or CHAIN.is_form(value) or CHAIN.is_plain(value))
            with self.assertRaises(BadTree) as caught:
                CHAIN.size(value)
            self.assertIs(caught.exception.value, value)


class Order(unittest.TestCase):
    def test_sizes_of_small_trees(self):
        for world in WORLDS:
            for tree in plain.small_trees(world, 6)[:500]:
                self.assertEqual(world.size(tree), plain.size(tree))

    def test_order_of_small_trees(self):
        for world in WORLDS:
            trees = plain.small_trees(world, 5, further=3)[:90]
            for one, other in itertools.product(trees, repeat=2):
                self.assertIs(world.before(one, other), plain.before(world, one, other))

    def test_parts_are_compared_from_the_front_by_size_first(self):
        small, great = ("nil",), ("pair", ("nil",), ("nil",))
        self.assertTrue(WIDE_PAIRS.before(("pair", small, great), ("pair", great, small)))
        self.assertFalse(WIDE_PAIRS.before(("pair", great, small), ("pair", small, great)))
        self.assertTrue(WIDE_PAIRS.before(("pair", ("nil",), ("*", 9)), ("pair", ("*", 0), ("nil",))))
        self.assertTrue(WIDE_PAIRS.before(("pair", great, ("*", 10)), ("pair", great, ("*", 11))))
        self.assertTrue(THREE.before(("red",), ("blue",)))
        self.assertFalse(THREE.before(("blue",), ("green",)))

    def test_further_leaves_stand_behind_the_signs(self):
        self.assertTrue(WIDE.before(("*", 2), ("*", 10)))
        self.assertFalse(WIDE.before(("*", 2), ("*", 2)))
        self.assertTrue(WIDE.before(("*", 10 ** 59), ("*", 10 ** 59 + 1)))
        self.assertFalse(WIDE_FULL.before(("*", 0), ("c",)))
        self.assertTrue(WIDE_FULL.before(("*", 7), ("g", ("a",))))

    def test_great_trees(self):
        left = right = ("a",)
        for _ in range(3000):
            left, right = ("h", left, ("b",)), ("h", ("b",), right)
        self.assertEqual(FULL.size(left), 6001)
        self.assertTrue(FULL.before(right, left))
        self.assertFalse(FULL.before(left, right))
        self.assertTrue(FULL.before(left, ("h", left, ("a",))))

    def test_bad_trees_the_first_argument_first(self):
        for first, second, told in ((1, 2, 1), (("nil",), 2, 2), (1, ("nil",), 1), ("x", ["nil"], "x")):
            with self.assertRaises(BadTree) as caught:
                POINT.before(first, second)
            self.assertEqual(caught.exception.value, told)

    def test_arguments_by_their_names(self):
        tree = ("nil",)
        self.assertEqual([POINT.is_tree(value=tree), POINT.is_form(value=tree), POINT.is_plain(value=tree),
                          POINT.size(tree=tree), POINT.before(first=tree, second=tree),
                          PAIRS.before(second=tree, first=("one",))], [True, True, True, 1, False, False])

    def test_each_method_stands_in_the_class(self):
        for name in ("signs", "more", "endless", "is_tree", "is_form", "is_plain", "size", "before", "__eq__"):
            self.assertIn(name, vars(World))
        self.assertEqual(World.__module__, "butthese.worlds")


if __name__ == "__main__":
    unittest.main()
