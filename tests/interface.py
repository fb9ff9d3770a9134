"""The interface: each function and class by its file, with the parameters that its point shows."""

from pagestrue.boxpages import BoxPage
from pagestrue.desks import Desk
from pagestrue.pages import Page
from pagestrue.widepages import WidePage

SIGNATURES = """
pages: Page(cells) is_cell(thing) names_of(page) renamed(page, names)
pagetexts: page_text(page) read_page(text) page_fault(text) whole_text(text)
cellnames: sets_of(cell) reads_of(cell) nest_of(cell) free_of(cell, other) joined_cells(cell, other)
cellmatters: matters(cell, name) mattering(cell)
runs: is_stand(web, thing) ran(web, stand, cell)
rowsofruns: played(page, runs) stand_behind(page, runs) hangs_on(page, runs, place) leavers(page, runs)
tops: first_miss(page) top(page) needs(page) top_behind(web, stand, page)
webs: web_fault(thing) is_web(thing) put_row(web, row) joined_webs(web, other) same_part(web, part, other, its)
webparts: needs_of(web, part) thinned_web(web, parts) steps_in(web, part) tests_in(web, part) depth_of(web, part)
webparts: tree_of(web, part) decided(web, truths)
meanings: is_meaning(web, thing) meaning_fault(web, thing) free_meaning(web, choices) choice_lists(web)
alikeparts: are_alike(web, one, other) parting_meaning(web, one, other) alike_parts(web)
casetrees: case_tree(web, one, other) is_case_tree(web, one, other, thing)
alikepages: pages_part(page, other, what)
misleading: on_top(page, runs) untrue_at(page, runs) untrue_meaning(page, runs) is_misleading(page, thing)
twobehind: untrue_pair(page) untrue_row(page) safe_names(page)
leastuntrue: first_untrue(page) left_out(page)
namesparted: needs_by(page) clashes(page) is_parting(page, thing) parted(page, parting) fewest_names(page)
namesparted: least_parting(page)
liveparts: live_statements(page, places) live_page(page, places) fewest_cells(page, place)
stops: went(web, stand, cell) went_along(page, runs) standing_lots(page) can_stop(page)
ownerlots: stop_lot(page) is_stop_lot(page, thing) whole_lot(page) is_whole_lot(page, thing)
comings: can_run(page) can_stand(page) makes(page, place) is_ring(page, thing) ring_of(page)
allstands: all_stands(page) is_closed(page, web, thing)
rounds: comes_round(page, ahead, again)
againviews: views_along(page, web, stand, wished, runs)
againrows: come_again(page, web, stand, wished) is_again(page, web, stand, wished, thing)
againrows: fewest_runs(page, web, stand, wished) first_loss(page, web, stand, wished, runs)
nevers: lacking(page, web, stand, wished, views) is_never(page, web, stand, wished, thing)
againlots: enough_lots(page, web, stand, wished) needed_lots(page, web, stand, wished)
pagenumbers: is_numbers(page, thing) lacking_numbers(page, numbers) is_history(page, numbers, thing)
pagenumbers: histories(page, numbers) is_history_with(page, numbers, strangers, thing)
pagenumbers: history_shown(page, numbers, strangers, history)
passes: pass_of(page, numbers, strangers) is_pass(page, numbers, strangers, thing) parts_by(page, numbers, strangers)
passes: words_by(page, numbers, strangers)
opencertificates: open_certificate(page, numbers, strangers, place, at)
opencertificates: is_open_certificate(page, numbers, strangers, place, at, thing) is_enough(page, numbers, lot)
opencertificates: fewest_asked(page, numbers)
savedvalues: bears(page, numbers, values, history) value_clash(page, numbers, values, history)
savedpages: bearing(page, numbers, values) sure_runs(page, numbers, values) saved(page, numbers, values)
savedpages: is_none_certificate(page, numbers, values, thing)
savedwords: fewest_doubts(page, numbers, values) saved_words(page, numbers, values)
weaves: woven(page, hands, order) strays(page, hands, order) stands_behind(page, hands, order)
steadiness: conflicts(page) straying(page) is_straying(page, thing)
steadynames: other_naming(page, another) steady_naming(page) steady_names(page)
weavecounts: woven_counts(page, hands) kth_order(page, hands, k)
fences: keeps_fences(page, hands, order, fences) fenced_counts(page, hands, fences) least_fences(page, hands)
keepplans: plan_fault(web, making, loading, wanted, thing) plan_price(web, making, loading, wanted, plan)
keepflows: flow_fault(web, making, loading, wanted, thing) flow_sum(flow)
leastkeeping: least_keeping(web, making, loading, wanted) shelf_worth(web, making, loading, wanted, index)
leastkeeping: fewest_at_hand(web, making, loading, wanted, price)
scripts: needed_rows(web, wanted) is_script(web, wanted, thing) script_steps(web, wanted, script)
scripts: least_script(web, wanted) fewest_steps(web, wanted)
plans: is_plan(web, wanted, hands, thing) depth_plan(web, wanted)
twohands: two_plan(web, wanted) two_rounds(web, wanted) is_lots(web, wanted, thing) lots_bound(web, wanted, lots)
twohands: lots_certificate(web, wanted)
cellorders: breaks_at(page, order) orders_count(page) good_order(page, k)
ordermoves: always_ahead(page) turned_order(page, one, other) move_lets(page, place) fewest_moves(page, order)
widepages: WidePage(cells) is_wide_cell(thing)
wideruns: wide_ran(web, stand, cell) wide_top(wide) wide_at(wide, runs)
widelots: wide_lot(wide) is_wide_lot(wide, thing) looked_up(wide, place) sure_names(wide)
boxpages: BoxPage(cells) box_run(web, standing, boxcell) box_top(boxpage)
boxlots: box_row(boxpage) is_box_row(boxpage, thing) box_lot(boxpage) is_box_lot(boxpage, thing) shared(boxpage)
freshness: marks(page, runs) stale_at(page, runs) mends(page, runs, again) mending(page, runs) one_more(page, runs)
edited: touched(page, other) sure(page, other) anew(page, other)
desks: Desk()
webtexts: web_text(web) read_web(text) web_text_fault(text)
standtexts: stand_text(web, stand) read_stand(web, text) stand_text_fault(web, text)
runtexts: runs_text(many, runs) read_runs(many, text) runs_text_fault(many, text)
meaningtexts: meaning_text(web, meaning) read_meaning(web, text) meaning_text_fault(web, text)
casetexts: cases_text(web, one, other, tree) read_cases(web, one, other, text) cases_text_fault(web, one, other, text)
viewtexts: views_text(views) read_views(text) views_text_fault(text)
errors: PageError() BadCell(cell) BadCells(index) BadPage(page) BadNames(names) BadPageText(line, sign) BadName(name)
errors: BadOtherCell(other) BadStand(stand) BadRuns(runs) Unsound(index) BadTurn(place) BadWeb(index) BadRow(row)
errors: BadOther(index) BadPart(part) BadIts(its) BadParts(index) BadTruths(truths) BadMeaning(meaning)
errors: BadChoices(index) BadWhat(what) HasIf(index) BadParting(parting) BadPlaces(index) BadPlace(place)
errors: BadPlain(index) BadWished(wished) BadViews(index) BadNumbers(index) BadStrangers(index) BadHistory(history)
errors: BadAt(at) BadLot(index) BadValues(index) BadHands(index) BadOrder(index) BadAnother(another)
refusals: BadK(k) BadFences(index) BadMaking(index) BadLoading(index) BadWanted(index) BadPlan(plan) BadFlow(flow)
refusals: BadIndex(index) BadPrice(price) BadPlainWeb(web) BadScript(script) BadHandCount(hands) BadLots(lots)
refusals: BadPair(one, other) BadWideCells(index) BadWide(wide) BadWideStand(stand) BadWideCell(cell)
refusals: BadBoxCells(index) BadBoxPage(boxpage) BadStanding(standing) BadBoxCell(boxcell) UnsoundBoxes(index)
refusals: Misleads(row) BadOtherPage(other) BadPut(place) NoTag(tag) BadWebText(line, sign) BadStandText(line, sign)
refusals: BadMany(many) BadRunsText(line, sign) BadMeaningText(line, sign) BadTree(tree) BadCasesText(line, sign)
refusals: BadViewsForm(index) BadViewsText(line, sign)
"""
METHODS = {
    Page: "cells() __eq__(other)",
    WidePage: "cells() __eq__(other)",
    BoxPage: "boxcells() __eq__(other)",
    Desk: """put(place, cell) edit(tag, cell) move(tag, place) drop(tag) tags() as_page() run(tag) restart() stands()
             numbers() shown(tag) judged() left() handed() undo() redo() copy() __eq__(other)"""}


def split_signatures(text):
    """The pairs of a name and the list of its parameters."""
    for piece in text.replace(", ", ",").split():
        name, _, rest = piece.partition("(")
        yield name, [one for one in rest.rstrip(")").split(",") if one]


def names_by_file():
    """The dict from the files to the names of their functions and classes."""
    told = {}
    for line in SIGNATURES.strip().split("\n"):
        module, _, rest = line.partition(": ")
        told.setdefault(module, []).extend(name for name, _ in split_signatures(rest))
    return told
