"""Cells with changes, and standings of boxes, as tuples: judged once, then never changed by anybody."""

from pagestrue.webforms import is_part
from pagestrue.wideforms import forms_all, has_word, plain_statement_form
from pagestrue.words import are_names, first_unrisen, is_list


def box_form(thing):
    """The cell as tuples, None if it is none."""
    return forms_all(thing, box_statement_form)


def box_statement_form(thing):
    """A statement as tuples, None if it is none."""
    if not has_word(thing, "change", 4):
        return plain_statement_form(thing)
    if not are_names(thing[1:3]) or not are_names(thing[3]):
        return None
    return ("change", thing[1], thing[2], tuple(thing[3]))


def told_box_cell(form):
    """The cell as it is told: tuples, names in new lists."""
    return [told_box_statement(statement) for statement in form]


def told_box_statement(statement):
    """A statement as it is told."""
    if statement[0] in ("set", "change"):
        return statement[:3] + (list(statement[3]),)
    return statement


def standing_form(rows, thing):
    """The standing as tuples, None if it is none."""
    if not is_list(thing):
        return None
    pairs = [pair_form(rows, one) for one in thing]
    if first_unrisen(pairs) is not None:
        return None
    names = [name for pair in pairs for name in pair[0]]
    return tuple(pairs) if len(set(names)) == len(names) else None


def pair_form(rows, thing):
    """The pair of ascending names and the part in their box, None if it is none."""
    if not is_list(thing) or len(thing) != 2 or not are_names(thing[0]) or not is_part(rows, thing[1]):
        return None
    if len(thing[0]) == 0 or first_unrisen(thing[0]) is not None:
        return None
    return (tuple(thing[0]), thing[1])


def told_standing(form):
    """The standing as it is told."""
    return [(list(names), part) for names, part in form]
