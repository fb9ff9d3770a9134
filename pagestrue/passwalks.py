"""One walk along the numbers: under each name the part that it has in all histories, or None."""


def known_run(table, stand, form):
    """What stands behind a run, and what it shows, where None stands for what is not known."""
    now = dict(stand)
    shown = []
    for statement in form:
        if statement[0] == "show":
            shown.append(now[statement[1]])
        elif statement[0] == "copy":
            now[statement[1]] = now[statement[2]]
        else:
            parts = tuple([now[name] for name in statement[3]])
            is_known = None not in parts
            now[statement[1]] = table.put_in(("made", statement[2], parts)) if is_known else None
    return (now, shown)


def known_stands(look, strangers, table):
    """What is known to stand ahead of the first run, and behind each number."""
    stands = [{name: None for name in look.names}]
    for at, places in enumerate(look.all_runners()):
        if at + 1 in strangers:
            stands.append(stands[0])
        else:
            behind = [known_run(table, stands[at], look.forms[place])[0] for place in places]
            stands.append({name: common_part(behind, name) for name in look.names})
    return stands


def common_part(stands, name):
    """The one part that the name has in all these, else None."""
    parts = [stand[name] for stand in stands]
    return parts[0] if parts == parts[:1] * len(parts) else None


def known_shown(look, strangers, table):
    """For each cell None, or the list of what it is known to show, None for what is not known."""
    stands = known_stands(look, strangers, table)
    told = []
    for form, number in zip(look.forms, look.lasts):
        told.append(known_run(table, stands[number - 1], form)[1] if number > 0 else None)
    return told
