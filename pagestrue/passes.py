"""What all histories have in common, and what this tells of what is shown."""

from pagestrue.passwalks import known_shown, known_stands
from pagestrue.pastlooks import judged_past, judged_strangers, past_of
from pagestrue.rowtables import RowTable
from pagestrue.topruns import plain_forms, run_top
from pagestrue.webforms import is_part, scanned_web
from pagestrue.webs import join_rows
from pagestrue.words import is_list


def pass_of(page, numbers, strangers):
    """The web, and what is known to stand ahead of the first run and behind each number."""
    look = judged_past(page, numbers)
    table = RowTable([])
    stands = known_stands(look, judged_strangers(look, strangers), table)
    # One more than the last number are told, and none of them twice the same dict.
    return (table.rows, [dict(stand) for stand in stands])


def is_pass(page, numbers, strangers, thing):
    """Whether it is such a web and such stands, whatever other rows the web has."""
    look = judged_past(page, numbers)
    judged_strangers(look, strangers)
    if not is_list(thing) or len(thing) != 2 or not is_list(thing[1]) or len(thing[1]) != look.many + 1:
        return False
    its_table, fault = scanned_web(thing[0])
    if fault is not None:
        return False
    table = RowTable([])
    stands = known_stands(look, strangers, table)
    places = join_rows(table, its_table.rows)
    for stand, other in zip(stands, thing[1]):
        if not is_known_stand(its_table.rows, look.names, other):
            return False
        if {name: led_part(places, other[name]) for name in look.names} != stand:
            return False
    return True


def is_known_stand(rows, names, thing):
    """Whether it is a dict from just these names to parts of the rows or None."""
    if not isinstance(thing, dict) or len(thing) != len(names) or not all([name in thing for name in names]):
        return False
    return all([thing[name] is None or is_part(rows, thing[name]) for name in names])


def led_part(places, part):
    """Where the part stands in the other web, None for None."""
    return None if part is None else places[part]


def parts_by(page, numbers, strangers):
    """The web, and for each cell None or the parts that it shows, None for what is not sure."""
    look = judged_past(page, numbers)
    table = RowTable([])
    told = known_shown(look, judged_strangers(look, strangers), table)
    return (table.rows, told)


def words_by(page, numbers, strangers):
    """For each cell None or for each thing that it shows "true", "untrue" or "open"."""
    forms = plain_forms(page)
    look = past_of(forms, page, numbers)
    table = RowTable([])
    shown = run_top(table, {}, forms)[0]
    told = known_shown(look, judged_strangers(look, strangers), table)
    return [words_of(parts, tops) for parts, tops in zip(told, shown)]


def words_of(parts, tops):
    """The words of what a cell shows, None for a cell that never ran."""
    if parts is None:
        return None
    return [word_of(part, top_part) for part, top_part in zip(parts, tops)]


def word_of(part, top_part):
    """The word of a thing, by the part that it is known to be, and the one from the top."""
    if part is None:
        return "open"
    return "true" if part == top_part else "untrue"
