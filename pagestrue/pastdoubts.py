"""Why something is not sure: names followed along the numbers to where histories go asunder.

A DOUBT of a name behind some number is a list of beginnings of histories: of one alone, by which
what stands there needs a given row; or of two, unlike at one number alone, by which unlike parts
stand there. Steps keep unlike parts unlike, so a doubt of a need is one of what is made of it.
"""

from pagestrue.makings import given_table, sources_of
from pagestrue.cellruns import run_cell
from pagestrue.passwalks import known_run, known_stands
from pagestrue.rowtables import RowTable


class FlowLook:
    """Of which names each cell makes what it lets stand, and what it shows."""

    def __init__(self, look):
        self.left_from = []
        self.shown_from = []
        for form in look.forms:
            table, stand = given_table(look.names)
            now, shown, _ = run_cell(table, stand, form)
            self.left_from.append({name: sources_of(table.rows, look.names, now[name]) for name in now})
            self.shown_from.append([sources_of(table.rows, look.names, part) for part in shown])


class DoubtLook:
    """The doubts of all names behind all numbers."""

    def __init__(self, look, strangers):
        self.look = look
        self.runners = look.all_runners()
        self.flows = FlowLook(look)
        self.table = RowTable([])
        self.known_behind = known_stands(look, strangers, self.table)
        self.doubts = [{name: [[]] for name in look.names}]
        for number in range(1, look.many + 1):
            self.doubts.append(self.doubts_behind(number, number in strangers))

    def doubts_behind(self, number, has_stranger):
        """The doubts of the names that are not known behind the number."""
        told = {}
        for name in self.look.names:
            if has_stranger:
                told[name] = [self.look.any_beginning(number - 1) + [None]]
            elif self.known_behind[number][name] is None:
                told[name] = self.doubt_behind(number, name)
        return told

    def doubt_behind(self, number, name):
        """The doubt of a name behind a number at which no stranger ran."""
        places = self.runners[number - 1]
        for place in places:
            found = self.doubt_ahead(number, self.flows.left_from[place][name], place)
            if found is not None:
                return found
        # Each cell that can have run there leaves a known part, and not all the same one.
        parts = [self.known_part(number, place, name) for place in places]
        other = [place for place, part in zip(places, parts) if part != parts[0]][0]
        ahead = self.look.any_beginning(number - 1)
        return [ahead + [places[0]], ahead + [other]]

    def doubt_ahead(self, number, names, place):
        """The doubt of the first of these names that has one ahead of the cell's run, or None."""
        for name in names:
            if name in self.doubts[number - 1]:
                return [beginning + [place] for beginning in self.doubts[number - 1][name]]
        return None

    def known_part(self, number, place, name):
        """The part that the name is known to have behind a run of the cell at the number."""
        return known_run(self.table, self.known_behind[number - 1], self.look.forms[place])[0][name]

    def certificate(self, place, at):
        """Why the thing that the cell shows is not sure, None if it is."""
        number = self.look.lasts[place]
        found = self.doubt_ahead(number, self.flows.shown_from[place][at], place)
        if found is None:
            return None
        whole = [beginning + self.look.any_ending(number) for beginning in found]
        return ("given", whole[0]) if len(whole) == 1 else ("two", whole[0], whole[1])
