"""Why something shown is open, and whom to ask what was run."""

from pagestrue.asklooks import enough_numbers
from pagestrue.errors import BadAt, BadLot, BadPlace
from pagestrue.pastdoubts import DoubtLook
from pagestrue.pastlooks import judged_past, judged_strangers, lacking_fault, shown_part
from pagestrue.rowtables import RowTable, cone_of
from pagestrue.words import is_list, is_place


def judged_thing(look, place, at):
    """Refuse what is no thing that a cell's last run shows."""
    if not is_place(place, len(look.forms)) or look.lasts[place] == 0:
        raise BadPlace(place)
    if not is_place(at, len([one for one in look.forms[place] if one[0] == "show"])):
        raise BadAt(at)


def open_certificate(page, numbers, strangers, place, at):
    """None for a thing that is sure, else two histories, or one, why it is not."""
    look = judged_past(page, numbers)
    judged_strangers(look, strangers)
    judged_thing(look, place, at)
    return DoubtLook(look, strangers).certificate(place, at)


def is_open_certificate(page, numbers, strangers, place, at, thing):
    """Whether it is why the thing is not sure."""
    look = judged_past(page, numbers)
    judged_strangers(look, strangers)
    judged_thing(look, place, at)
    if not is_list(thing) or len(thing) == 0 or not isinstance(thing[0], str):
        return False
    if not all([look.is_whole(one, strangers) for one in thing[1:]]):
        return False
    table = RowTable([])
    parts = [shown_part(look, table, history, place, at) for history in thing[1:]]
    if thing[0] == "given" and len(thing) == 2:
        return any([table.rows[row][0] == "given" for row in cone_of(table.rows, parts)])
    if thing[0] == "two" and len(thing) == 3:
        unlike = [one for one, other in zip(thing[1], thing[2]) if one != other]
        return len(unlike) == 1 and parts[0] != parts[1]
    return False


def is_enough(page, numbers, lot):
    """Whether each thing shown is sure once it is known who ran at these numbers."""
    look = judged_past(page, numbers)
    wrong = lacking_fault(look, lot)
    if wrong is not None:
        raise BadLot(wrong)
    wanted = enough_numbers(look)
    return wanted is not None and all([number in lot for number in wanted])


def fewest_asked(page, numbers):
    """The ascending list of the shortest lots that are enough."""
    wanted = enough_numbers(judged_past(page, numbers))
    return [] if wanted is None else [wanted]
