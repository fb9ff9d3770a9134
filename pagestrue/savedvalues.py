"""Whether a history bears the values that were seen."""

from pagestrue.pastlooks import judged_history, judged_past
from pagestrue.valuelooks import judged_values


def clash_in(page, numbers, values, history):
    """The first clash of things, None for a history that bears the values."""
    look = judged_past(page, numbers)
    seen = judged_values(look, values)
    return seen.clash(judged_history(look, [], history))


def bears(page, numbers, values, history):
    """Whether some meaning gives each thing's part, in this history, just its value."""
    return clash_in(page, numbers, values, history) is None


def value_clash(page, numbers, values, history):
    """None if the history bears the values, else the first pair of things that cannot be so."""
    return clash_in(page, numbers, values, history)
