"""What can ever run and stand, and what is made of what, round in a ring."""

from pagestrue.cellforms import names_read, names_set
from pagestrue.cellruns import has_all
from pagestrue.errors import BadPlace
from pagestrue.makings import cell_makings, ring_in
from pagestrue.pages import ifless_forms
from pagestrue.words import is_list, is_name, is_place


def running(forms):
    """The cells that can run, and the names that they leave, both ascending."""
    places = {}
    names = {}
    is_more = True
    while is_more:
        is_more = False
        for place, form in enumerate(forms):
            if place not in places and has_all(names, names_read(form)):
                is_more = True
                places[place] = True
                for name in names_set(form):
                    names[name] = True
    return (sorted(places), sorted(names))


def can_run(page):
    """The ascending list of the cells that do not miss in some row of runs."""
    return running(ifless_forms(page))[0]


def can_stand(page):
    """The ascending list of the names that stand behind some row of runs."""
    return running(ifless_forms(page))[1]


def makes(page, place):
    """The ascending list of the triples of what the cell makes: of which name, which, through a step."""
    forms = ifless_forms(page)
    if not is_place(place, len(forms)):
        raise BadPlace(place)
    return cell_makings(forms[place])


def links_of(forms):
    """What the cells that can run make, as quadruples that begin with the cell."""
    return [(place,) + made for place in running(forms)[0] for made in cell_makings(forms[place])]


def is_ring(page, thing):
    """Whether it is a ring of the page."""
    links = links_of(ifless_forms(page))
    if not is_list(thing) or not all([is_link(links, one) for one in thing]):
        return False
    sources = [one[1] for one in thing]
    return [one[2] for one in thing] == sources[1:] + sources[:1] and any([one[3] for one in thing])


def is_link(links, thing):
    """Whether it is one of these quadruples."""
    if not is_list(thing) or len(thing) != 4:
        return False
    # No number may stand for a bool, and no object may be asked whether it is like another one.
    if isinstance(thing[0], bool) or not isinstance(thing[0], int) or not isinstance(thing[3], bool):
        return False
    return is_name(thing[1]) and is_name(thing[2]) and tuple(thing) in links


def ring_of(page):
    """A ring of the page, None if there is none."""
    return ring_in(links_of(ifless_forms(page)))
