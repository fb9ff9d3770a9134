"""What is a list, a number, a name: asked of any object."""

LONGEST_NAME = 8


def is_list(thing):
    """Whether it is a list or a tuple."""
    return isinstance(thing, (list, tuple))


def is_number(thing):
    """Whether it is an integer from 0 on, and no bool."""
    return isinstance(thing, int) and not isinstance(thing, bool) and thing >= 0


def are_numbers(thing):
    """Whether it is a list of numbers."""
    return is_list(thing) and all([is_number(one) for one in thing])


def is_place(thing, many):
    """Whether it is the place of one of so many things."""
    return is_number(thing) and thing < many


def is_letter(sign):
    """Whether it is a small letter."""
    return "a" <= sign <= "z"


def is_figure(sign):
    """Whether it is a figure."""
    return "0" <= sign <= "9"


def begins_name(text):
    """Whether some name begins with this text."""
    if len(text) > LONGEST_NAME or not all([is_letter(sign) or is_figure(sign) for sign in text]):
        return False
    return text == "" or is_letter(text[0])


def is_name(thing):
    """Whether it is a name."""
    return isinstance(thing, str) and thing != "" and begins_name(thing)


def are_names(thing):
    """Whether it is a list of names."""
    return is_list(thing) and all([is_name(one) for one in thing])


def first_wrong(oks):
    """The index of the first False of a list of bools, None without one."""
    for at, is_right in enumerate(oks):
        if not is_right:
            return at
    return None


def first_unrisen(forms):
    """The index of the first form that is None or not above the one ahead, None without one."""
    for at, form in enumerate(forms):
        if form is None or (at > 0 and form <= forms[at - 1]):
            return at
    return None


def risen_places(thing, many):
    """The index of the first thing that is no place, or not above the one ahead, None without one.

    It is 0 for no list; each is to be the place of one of so many things.
    """
    if not is_list(thing):
        return 0
    return first_unrisen([one if is_place(one, many) else None for one in thing])
