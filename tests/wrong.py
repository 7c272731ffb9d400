"""Tests of the errors that all functions and classes raise that are given a list of plain forms."""

from butthese.errors import BadForms, NotPlain
from butthese.lots import Lot
import plain
from plain import FULL, NIL, PAIRS, TIGHT_WORLDS, WIDE_FULL, WORLDS, Forms


class WrongPlainLists:
    """To be put ahead of unittest.TestCase; calls are functions of a world and a list."""

    calls = ()
    # Whether the calls let worlds that have more.
    lets_more = True

    def let(self, worlds):
        return [world for world in worlds if self.lets_more or not world.more]

    def raises(self, error, position, world, forms):
        for call in self.calls:
            kept = list(forms)
            with self.assertRaises(error) as caught:
                call(world, forms)
            self.assertIs(type(caught.exception), error)
            self.assertEqual(caught.exception.position, position)
            self.assertEqual(len(forms), len(kept))
            self.assertTrue(all(one is other for one, other in zip(forms, kept)))

    def check_changed(self, world, before, value, behind):
        """A list with a value put in raises the error that [5] and stage 3 ask for, or none."""
        passed = [*before, value, *behind]
        if not plain.is_form(world, value):
            self.raises(BadForms, len(before), world, passed)
        elif not plain.is_plain(world, value):
            self.raises(NotPlain, len(before), world, passed)
        else:
            for call in self.calls:
                call(world, passed)

    def test_the_first_entry_that_is_not_a_form(self):
        for value in [*plain.anything(), Lot(PAIRS, [NIL])]:
            self.raises(BadForms, 0, PAIRS, [value])
            self.raises(BadForms, 0, PAIRS, [value, value])
            self.raises(BadForms, 2, PAIRS, ["x", ("pair", NIL, "_"), value, None, "y"])
            for world in self.let([FULL, WIDE_FULL]):
                self.raises(BadForms, 1, world, ["x", value])

    def test_bad_forms_stand_ahead_of_forms_that_are_not_plain(self):
        double = ("pair", "x", "x")
        self.raises(BadForms, 2, PAIRS, [double, NIL, ["nil"]])
        self.raises(BadForms, 1, PAIRS, [double, None, double])
        self.raises(BadForms, 1, PAIRS, ["x", ("*",), double])

    def test_the_first_entry_that_is_not_plain(self):
        double, hidden = ("pair", "x", "x"), ("pair", ("pair", "y", "_"), ("pair", "x", "y"))
        self.raises(NotPlain, 0, PAIRS, [double])
        self.raises(NotPlain, 1, PAIRS, [NIL, double, hidden])
        self.raises(NotPlain, 3, PAIRS, ["x", "x", ("pair", "x", "y"), hidden])

    def test_forms_with_parts_changed(self):
        for seed, world in enumerate(self.let([FULL, *TIGHT_WORLDS])):
            forms = Forms(world, seed)
            for _ in range(6):
                for value in plain.changed(forms.form(4, names="xy", eager=0.9)[0]):
                    self.check_changed(world, ["x"], value, [])

    def test_told_lists_with_parts_changed(self):
        for seed, world in enumerate(self.let(WORLDS)):
            forms = Forms(world, seed + 400)
            for _ in range(4):
                told = Lot(world, forms.plain_list(3, 6)).others().forms
                for at, form in list(enumerate(told))[:5]:
                    for value in plain.changed(form):
                        self.check_changed(world, told[:at], value, told[at:])
