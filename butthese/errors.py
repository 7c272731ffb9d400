"""The errors of the package: each one keeps the very value that it tells of."""


class FormError(ValueError):
    """What all errors of the package are."""


class BadSigns(FormError):
    """A value that is not the signs of a world."""

    def __init__(self, value):
        self.value = value


class BadTree(FormError):
    """A value that is not a tree."""

    def __init__(self, value):
        self.value = value


class BadForm(FormError):
    """A value that is not a form, or not of the kind that is asked for."""

    def __init__(self, value):
        self.value = value


class BadForms(FormError):
    """A list whose entry at a position is not a form."""

    def __init__(self, position):
        self.position = position


class BadValues(FormError):
    """A value that is not a dict from names to trees, or lacks a letter."""

    def __init__(self, value):
        self.value = value


class NotPlain(FormError):
    """A list whose entry at a position is a form, but not a plain one."""

    def __init__(self, position):
        self.position = position


class HasMore(FormError):
    """A world that has more, where one without further leaves is asked for."""

    def __init__(self, value):
        self.value = value


class BadCondition(FormError):
    """A saying whose entry at a position is not a condition."""

    def __init__(self, position):
        self.position = position


class NotThere(FormError):
    """A value that is not among what is asked."""

    def __init__(self, value):
        self.value = value


class TooFar(FormError):
    """More calls to take back than there are, which is the count."""

    def __init__(self, count):
        self.count = count


class BadText(FormError):
    """A value that is not the text of a form or a tree."""

    def __init__(self, value):
        self.value = value
