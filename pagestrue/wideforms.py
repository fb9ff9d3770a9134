"""Wide cells and functions as tuples: judged once, then never changed by anybody."""

from pagestrue.cellforms import statement_form, told_statement
from pagestrue.webforms import is_part
from pagestrue.words import are_names, is_list, is_name


def wide_form(thing):
    """The wide cell as tuples, None if it is none."""
    return forms_all(thing, wide_statement_form)


def forms_all(thing, form_of):
    """The list's statements as tuples, None if it is no list or one of them is wrong."""
    if not is_list(thing):
        return None
    forms = [form_of(one) for one in thing]
    return None if None in forms else tuple(forms)


def plain_statement_form(thing):
    """A set, a copy or a show as tuples, None for anything else."""
    form = statement_form(thing, True, 0)
    return None if form is None or form[0] == "if" else form


def wide_statement_form(thing):
    """A statement of a wide cell as tuples, None if it is none."""
    if has_word(thing, "tell", 5):
        function = function_form(thing[2:])
        return ("tell", thing[1]) + function if is_name(thing[1]) and function is not None else None
    return call_form(thing) if has_word(thing, "call", 4) else plain_statement_form(thing)


def body_statement_form(thing):
    """A statement of a function's body as tuples, None if it is none."""
    if has_word(thing, "call", 4):
        return call_form(thing)
    form = plain_statement_form(thing)
    return None if form is None or form[0] == "show" else form


def has_word(thing, word, many):
    """Whether it is a list of so many things with the word first."""
    return is_list(thing) and len(thing) == many and isinstance(thing[0], str) and thing[0] == word


def call_form(thing):
    """A call as tuples, None if its names are wrong."""
    if not are_names(thing[1:3]) or not are_names(thing[3]):
        return None
    return ("call", thing[1], thing[2], tuple(thing[3]))


def function_form(thing):
    """A function as tuples, None if it is none."""
    if not is_list(thing) or len(thing) != 3 or not are_names(thing[0]) or not is_name(thing[2]):
        return None
    body = forms_all(thing[1], body_statement_form)
    if body is None or len(set(thing[0])) < len(thing[0]):
        return None
    return (tuple(thing[0]), body, thing[2])


def wide_stand_form(rows, thing):
    """The wide stand with its functions as tuples, None if it is none."""
    if not isinstance(thing, dict) or not all([is_name(name) for name in thing]):
        return None
    stand = {name: worth_form(rows, thing[name]) for name in thing}
    return None if None in list(stand.values()) else stand


def worth_form(rows, thing):
    """A part as it is, a function as tuples, None for anything else."""
    return thing if is_part(rows, thing) else function_form(thing)


def is_function(worth):
    """Whether what a name stands for is a function, not a part."""
    return isinstance(worth, tuple)


def told_wide(form):
    """The wide cell as it is told: tuples, lists within new."""
    return [told_wide_statement(statement) for statement in form]


def told_wide_statement(statement):
    """A statement of a wide cell as it is told."""
    if statement[0] == "tell":
        return statement[:2] + told_worth(statement[2:])
    if statement[0] == "call":
        return statement[:3] + (list(statement[3]),)
    return told_statement(statement)


def told_worth(worth):
    """A part as it is, a function with new lists."""
    return (list(worth[0]), told_wide(worth[1]), worth[2]) if is_function(worth) else worth


def told_worths(worths):
    """The dict, ascending, as it is told."""
    return {name: told_worth(worths[name]) for name in sorted(worths)}
