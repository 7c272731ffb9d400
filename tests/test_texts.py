"""[4] and stage 11: texts of forms and trees."""

import itertools
import string
import unittest

from butthese import texts
from butthese.errors import BadText
from butthese.lots import Lot
from butthese.rests import rest
from butthese.solving import answer
from butthese.texts import form_text, read_form, read_tree
from butthese.worlds import World
import plain
from plain import CHAIN, FULL, NIL, ONE, PAIRS, TIGHT_WORLDS, WIDE, WIDE_FULL, WIDE_PAIRS, WORLDS, Forms

MOST_SIGNS = 800
FAR = ("*", 10 ** 59)


def tree_text(tree):
    """The text of a tree, as the document says it."""
    if tree[0] == "*":
        return "(* " + str(tree[1]) + ")"
    return "(" + " ".join([tree[0], *map(tree_text, tree[1:])]) + ")"


class Texts(unittest.TestCase):
    def check_bad(self, read, world, value):
        with self.assertRaises(BadText) as caught:
            read(world, value)
        self.assertIs(type(caught.exception), BadText)
        self.assertIs(caught.exception.value, value)

    def check_form(self, world, form):
        told = form_text(form)
        self.assertEqual(told, plain.text(form))
        self.assertEqual(read_form(world, told), form)

    def check_tree(self, world, tree):
        told = form_text(tree)
        self.assertEqual(told, tree_text(tree))
        self.assertEqual(read_tree(world, told), tree)


class Examples(Texts):
    def test_examples_of_the_document(self):
        world = World([("nil", 0), ("one", 0), ("pair", 2)])
        wide = World([("nil", 0)], more=True)
        self.assertEqual([form_text(("pair", "x", NIL)), form_text(("*", 12)), read_form(world, "(pair _ (one))"),
                          read_tree(wide, "(* 0)")], ["(pair x (nil))", "(* 12)", ("pair", "_", ONE), ("*", 0)])
        self.check_bad(read_tree, world, "x")

    def test_functions_stand_in_the_file(self):
        for function in (form_text, read_form, read_tree):
            self.assertEqual(function.__module__, "butthese.texts")
            self.assertIs(getattr(texts, function.__name__), function)

    def test_arguments_by_their_names(self):
        self.assertEqual(form_text(form=("*",)), "(*)")
        self.assertEqual(read_form(text="(nil)", world=PAIRS), NIL)
        self.assertEqual(read_tree(text="(nil)", world=PAIRS), NIL)


class ThereAndBack(Texts):
    def test_random_forms(self):
        for seed, world in enumerate([*WORLDS, *TIGHT_WORLDS]):
            forms = Forms(world, seed)
            for _ in range(150):
                form, _ = forms.form(forms.random.randint(0, 12), 6, ["x", "y", "abcdefgh"], 0.9)
                self.check_form(world, form)

    def test_all_small_trees(self):
        for world in [*WORLDS, *TIGHT_WORLDS]:
            for tree in plain.trees_up_to(world, 200):
                self.check_tree(world, tree)
                if not any(node[0] == "*" for node in plain.subtrees(tree)):
                    self.assertEqual(read_form(world, form_text(tree)), tree)

    def test_short_ones(self):
        for form, told in (("_", "_"), ("x", "x"), ("zzzzzzzz", "zzzzzzzz"), (("*",), "(*)"), (("nil",), "(nil)"),
                           (("pair", "nil", "_"), "(pair nil _)"), ("pair", "pair"),
                           (("pair", ("*",), ("pair", "x", "x")), "(pair (*) (pair x x))")):
            self.assertEqual(form_text(form), told)
            self.assertEqual(read_form(WIDE_PAIRS, told), form)
        for tree, told in ((("*", 0), "(* 0)"), (("*", 10), "(* 10)"), (FAR, "(* 1" + "0" * 59 + ")"),
                           (("pair", ("*", 7), NIL), "(pair (* 7) (nil))")):
            self.assertEqual(form_text(tree), told)
            self.assertEqual(read_tree(WIDE_PAIRS, told), tree)

    def test_any_depth(self):
        form = "x"
        for _ in range(5000):
            form = ("next", form)
        self.assertEqual(form_text(form), "(next " * 5000 + "x" + ")" * 5000)
        tree = plain.chain(5000)
        self.assertEqual(form_text(tree), "(next " * 5000 + "(zero)" + ")" * 5000)
        world = World([("a", 0), ("g", 1), ("h", 2)])
        text = "(g " * 199 + "x" + ")" * 199
        self.assertEqual(form_text(read_form(world, text)), text)
        self.assertTrue(world.is_plain(read_form(world, text)))
        for text in ("(g " * 198 + "(a)" + ")" * 198, "(h (a) " * 88 + "(a)" + ")" * 88,
                     "(h " * 88 + "(a)" + " (a))" * 88):
            self.assertTrue(MOST_SIGNS - 100 < len(text) <= MOST_SIGNS)
            tree = read_tree(world, text)
            self.assertEqual(form_text(tree), text)
            self.assertEqual(world.size(tree), text.count("("))
            self.assertEqual(read_form(world, text), tree)

    def test_texts_of_up_to_eight_hundred_signs(self):
        forms = Forms(FULL, 3)
        longest = 0
        for _ in range(300):
            form = forms.form(150, 40, ["x", "yy"], 0.97)[0]
            if len(plain.text(form)) <= MOST_SIGNS:
                longest = max(longest, len(plain.text(form)))
                self.check_form(FULL, form)
        self.assertGreater(longest, 700)
        digits = "9" * 790
        self.assertEqual(form_text(read_tree(WIDE, "(* " + digits + ")")), "(* " + digits + ")")

    def test_what_the_package_told(self):
        for seed, world in enumerate(WORLDS):
            passed = Forms(world, seed + 9).plain_list(3, 6)
            for form in rest(world, passed)[:40] + Lot(world, passed).others().forms[:40]:
                self.check_form(world, form)
        told = answer(WIDE_PAIRS, [("unlike", "x", "y"), ("misses", "x", ("pair", "_", NIL)), ("unlike", "y", NIL)])
        for tree in told.values():
            self.check_tree(WIDE_PAIRS, tree)


class Wrong(Texts):
    def check_signs(self, world, text, readable):
        """Each text that has one sign put in, left out or exchanged is that of another form, or of none."""
        for at in range(len(text) + 1):
            for sign in ["", *" ()_*x0", "nil", "\n", "-"]:
                for behind in (text[at:], text[at + 1:]):
                    changed = text[:at] + sign + behind
                    for read, due in zip((read_form, read_tree), readable):
                        if changed in due:
                            self.assertEqual(read(world, changed), due[changed])
                        else:
                            self.check_bad(read, world, changed)

    def test_one_sign_changed(self):
        forms = ["_", "a", "x", ("*",), ("a",), ("g", "_"), ("g", "x"), ("g", ("a",)), ("g", ("*",)), ("g", "a")]
        names = ["".join(letters) for many in (1, 2, 3, 4) for letters in itertools.product("xnilg", repeat=many)]
        names += [one + other for one in ("", "a", "g", "x") for other in
                  ("a", "g", "x", "nil", "anil", "nila", "xnil", "nilx", "gnil", "nilg")]
        forms += names + [("g", name) for name in names] + ["g" + name for name in names if len(name) < 8]
        trees = [("a",), ("g", ("a",)), ("*", 0), ("g", ("*", 0)), ("*", 1), ("*", 10), ("*", 100), ("g", ("*", 10))]
        trees += [("*", 7), ("*", 70), ("*", 10 ** 2 + 0), ("g", ("*", 1)), ("g", ("*", 100))]
        readable = ({plain.text(form): form for form in forms}, {tree_text(tree): tree for tree in trees})
        world = World([("a", 0), ("g", 1)], more=True)
        for text in ("_", "x", "(a)", "(*)", "(g x)", "(g _)", "(g (a))", "(g (*))", "(* 10)", "(g (* 10))"):
            self.check_signs(world, text, readable)

    def test_any_value(self):
        for value in [*plain.anything(), NIL, ("pair", "x", NIL), ("*", 0), b"(nil)", ["(nil)"], ("(nil)",),
                      {"(nil)": 0}, [NIL], PAIRS, Lot(PAIRS, [NIL]), "", " ", "\n", "()", "(", ")", "( )", "(nil"]:
            for world in (PAIRS, WIDE_PAIRS):
                self.check_bad(read_tree, world, value)
                if not (type(value) is str and plain.is_form(world, value)):
                    self.check_bad(read_form, world, value)

    def test_blanks(self):
        for text in (" (nil)", "(nil) ", "( nil)", "(nil )", "(pair  x y)", "(pair x  y)", "(pair x y )", "(pair xy)",
                     "(pair x (nil)(nil))", "(pair(nil) (nil))", "(pair\n(nil) (nil))", "(nil)\n", "\n(nil)",
                     " x", "x ", "_ ", "(pair x y) ", "(pair (nil) (nil) )", "(pair (nil)  (nil))", "(nil) (nil)",
                     "x y", "x(nil)", "(nil)x", "(pair,x,y)", "(pair x\ty)"):
            self.check_bad(read_form, PAIRS, text)
            self.check_bad(read_tree, PAIRS, text.replace("x", "(nil)").replace("y", "(nil)"))

    def test_numbers_of_parts(self):
        for text in ("(pair)", "(pair x)", "(pair x y z)", "(nil x)", "(nil (nil))", "(x)", "(_)", "(pair x (nil x))",
                     "(one one)", "(pair (pair) (pair))", "((nil))", "(pair (nil) (nil)", "(pair (nil) (nil)))",
                     "((pair (nil) (nil)))", "nil)", "(nil", "((nil)", "(nil))", "pair x y", "(pair (nil) (x))"):
            self.check_bad(read_form, PAIRS, text)
            self.check_bad(read_tree, PAIRS, text)

    def test_further_leaves(self):
        for world in (PAIRS, CHAIN, FULL):
            for text in ("(*)", "(* 0)", "(* 12)", "*", "(pair (*) (nil))", "(pair (* 1) (nil))", "(next (*))"):
                self.check_bad(read_form, world, text)
                self.check_bad(read_tree, world, text)
        for text in ("(* 007)", "(* 00)", "(* 01)", "(* -1)", "(* -0)", "(* +1)", "(* 1_0)", "(* 1.0)", "(* x)",
                     "(* _)", "(* 1 2)", "(*  1)", "(* 1 )", "(*1)", "* 1", "(* (nil))", "(* 0x1)", "(* 1e1)", "(* )",
                     "(** 1)", "(* *)", "1", "(1)", "(nil 1)", "(pair 1 2)", "(pair (nil) 0)", "(* True)"):
            self.check_bad(read_form, WIDE_PAIRS, text)
            self.check_bad(read_tree, WIDE_PAIRS, text)
        for text in ("(* 0)", "(* 12)", "(pair (* 3) (nil))", "(pair (*) (* 0))"):
            self.check_bad(read_form, WIDE_PAIRS, text)
        for text in ("(*)", "(pair (*) (nil))", "(pair (* 0) (*))"):
            self.check_bad(read_tree, WIDE_PAIRS, text)

    def test_letters_in_trees(self):
        for text in ("x", "_", "nil", "(pair x (nil))", "(pair (nil) _)", "(pair (nil) nil)"):
            self.check_bad(read_tree, PAIRS, text)
            self.check_bad(read_tree, WIDE_PAIRS, text)

    def test_names_that_are_none(self):
        for name in ("abcdefghi", "X", "xY", "x1", "__", "_x", "x_", "x-y", "x.y", "*", "x*", "'x'", "x\n", "~"):
            self.check_bad(read_form, PAIRS, name)
            self.check_bad(read_form, PAIRS, "(pair " + name + " (nil))")
        for name in ("Nil", "nill", "ni", "NIL", "onee", "pairs"):
            self.check_bad(read_form, PAIRS, "(" + name + ")")
            self.check_bad(read_tree, PAIRS, "(" + name + ")")
        for letter in string.ascii_lowercase:
            self.assertEqual(read_form(PAIRS, letter * 8), letter * 8)

    def test_texts_of_other_worlds(self):
        for tree in plain.trees_up_to(FULL, 60):
            self.check_bad(read_tree, PAIRS, form_text(tree))
        self.check_bad(read_form, WIDE_FULL, "(pair x y)")


if __name__ == "__main__":
    unittest.main()
