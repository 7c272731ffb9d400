"""Texts of forms and trees, and what has a text."""

from butthese.errors import BadText

DIGITS = "0123456789"
# No text has a number of more digits, and Python itself does not read much longer ones.
MOST_DIGITS = 800


def form_text(form):
    """The text of a form or tree."""
    pieces = []
    waiting = [form]
    while waiting:
        node = waiting.pop()
        if isinstance(node, tuple):
            pieces.append("(" + node[0])
            waiting.append(")")
            for part in node[:0:-1]:
                waiting.extend([part, " "])
        else:
            pieces.append(str(node))
    return "".join(pieces)


def told_by(text):
    """What a text tells if it is one of a form or a tree; of any other one it may be anything, or None."""
    rows = [[]]
    for word in text.split(" "):
        name = word.strip("()")
        if word.startswith("("):
            rows.append([name])
        else:
            rows[-1].append(number_or_name(name))
        for _ in range(len(word) - len(word.rstrip(")"))):
            if len(rows) == 1:
                return None
            node = tuple(rows.pop())
            rows[-1].append(node)
    return rows[0][0] if len(rows) == 1 and len(rows[0]) == 1 else None


def number_or_name(word):
    """The integer that a word of digits tells, or the word."""
    if 1 <= len(word) <= MOST_DIGITS and all([sign in DIGITS for sign in word]):
        return int(word)
    return word


def read_form(world, text):
    """The form with a text."""
    form = told_by(text) if isinstance(text, str) else None
    # What was told by another text than a form's has a text that is not the same.
    if not world.is_form(form) or form_text(form) != text:
        raise BadText(text)
    return form


def read_tree(world, text):
    """The tree with a text."""
    tree = told_by(text) if isinstance(text, str) else None
    if not world.is_tree(tree) or form_text(tree) != text:
        raise BadText(text)
    return tree
