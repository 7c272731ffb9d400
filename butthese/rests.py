"""What lists of plain forms miss, share, and leave to the forms behind."""

from butthese.diagrams import ALL, Diagram, Heads, are_apart, row_of
from butthese.errors import BadForm, BadForms, NotPlain


def check_forms(world, forms):
    """Raise the error of the first entry that is not a form."""
    for position, form in enumerate(forms):
        if not world.is_form(form):
            raise BadForms(position)


def check_plain(world, forms):
    """Raise the error of the first entry that is not a form, then of the first one that is not plain."""
    check_forms(world, forms)
    for position, form in enumerate(forms):
        if not world.is_plain(form):
            raise NotPlain(position)


def left_behind(diagram, forms):
    """The set of all trees, and behind each plain form the set of those that no form so far fits."""
    left = [ALL]
    for form in forms:
        left.append(diagram.less(left[-1], diagram.set_of(row_of(form))))
    return left


def fitted_set(diagram, forms):
    """The set of the trees that a list of plain forms fits."""
    return diagram.less(ALL, left_behind(diagram, forms)[-1])


def rest(world, forms):
    """Plain forms, no two of which share a tree, that fit just the trees that a list misses."""
    check_plain(world, forms)
    diagram = Diagram(world)
    return diagram.forms_of(left_behind(diagram, forms)[-1])


def shared(world, first, second):
    """A plain form that fits just the trees that both of two plain forms fit, or None."""
    for form in (first, second):
        if not world.is_plain(form):
            raise BadForm(form)
    row = row_of(first)
    other = row_of(second)
    if are_apart(row, other):
        return None
    both = {**row, **other}
    return Heads(world).forms_of({place: [both[place]] for place in both})[0]


def parted(world, forms):
    """For each form plain forms, no two of which share a tree, of the trees that it is the first to fit."""
    check_plain(world, forms)
    diagram = Diagram(world)
    left = left_behind(diagram, forms)
    return [diagram.forms_of(diagram.less(before, behind)) for before, behind in zip(left, left[1:])]
