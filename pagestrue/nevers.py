"""Lists of views by which what is wished for never comes."""

from pagestrue.errors import BadViews
from pagestrue.viewlooks import Quest
from pagestrue.words import first_unrisen, is_list


def lacking(page, web, stand, wished, views):
    """None if no run leaves these views and none has all that is wished for, else why not."""
    quest = Quest(page, web, stand, wished)
    forms = view_forms(quest, views)
    wrong = 0 if forms is None else first_unrisen(forms)
    if wrong is not None:
        raise BadViews(wrong)
    return lack_of(quest, forms)


def view_forms(quest, views):
    """For each thing its pairs or None for no view; None for no list."""
    return [quest.look.view_form(one) for one in views] if is_list(views) else None


def lack_of(quest, forms):
    """The first thing that these views lack, None without one."""
    look = quest.look
    known = {look.view_of(dict(form)): True for form in forms}
    if quest.start not in known:
        return ("stand",)
    for view in known:
        for place in range(len(quest.forms)):
            if look.behind(view, place) not in known:
                return ("run", look.told(view), place)
    for view in known:
        if look.has_wished(view):
            return ("wished", look.told(view))
    return None


def is_never(page, web, stand, wished, thing):
    """Whether it is an ascending list of views that lacks nothing."""
    quest = Quest(page, web, stand, wished)
    forms = view_forms(quest, thing)
    return forms is not None and first_unrisen(forms) is None and lack_of(quest, forms) is None
