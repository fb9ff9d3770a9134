"""For each function of the last sections a call that tells something, and what each parameter refuses."""

from pagestrue import errors as e
from pagestrue import refusals as r
from pagestrue.boxlots import box_lot, box_row, is_box_lot, is_box_row, shared
from pagestrue.boxpages import BoxPage, box_run, box_top
from pagestrue.casetexts import cases_text, cases_text_fault, read_cases
from pagestrue.cellorders import breaks_at, good_order, orders_count
from pagestrue.edited import anew, sure, touched
from pagestrue.freshness import marks, mending, mends, one_more, stale_at
from pagestrue.keepflows import flow_fault, flow_sum
from pagestrue.leastkeeping import fewest_at_hand, least_keeping, shelf_worth
from pagestrue.meaningtexts import meaning_text, meaning_text_fault, read_meaning
from pagestrue.ordermoves import always_ahead, fewest_moves, move_lets, turned_order
from pagestrue.pages import Page
from pagestrue.plans import depth_plan, is_plan
from pagestrue.runtexts import read_runs, runs_text, runs_text_fault
from pagestrue.scripts import fewest_steps, is_script, least_script, needed_rows, script_steps
from pagestrue.standtexts import read_stand, stand_text, stand_text_fault
from pagestrue.twohands import is_lots, lots_bound, lots_certificate, two_plan, two_rounds
from pagestrue.viewtexts import read_views, views_text, views_text_fault
from pagestrue.webtexts import read_web, web_text, web_text_fault
from pagestrue.widelots import is_wide_lot, looked_up, sure_names, wide_lot
from pagestrue.widepages import WidePage, is_wide_cell
from pagestrue.wideruns import wide_at, wide_ran, wide_top
from tests.making import Strange
from tests.samples import (ANYTHING, MEANING, NO_CELLS_AT_ALL, NO_RUNS, NO_STANDS, PART_REFUSED, PLAIN, PLAIN_CELLS,
                           PLAIN_REFUSED, RUNS_REFUSED, SOUND_REFUSED, STAND_REFUSED, WEB, WEB_REFUSED,
                           WITH_IF, at_index, just)
from tests.samples_more import HUGE, KEEP, KEEP_REFUSED, PLACE_REFUSED, step

MADE_WEB = [("made", "f", ()), ("made", "g", (0,)), ("made", "h", (0, 0)), ("made", "k", (1, 2)), ("made", "f2", ())]
MADE = {"web": MADE_WEB, "wanted": [3, 1, 3]}
MADE_REFUSED = {
    "web": just(r.BadPlainWeb, [None, "made", {}, [("made", "f", ()), ("given", 0)], [("made", "f", (0,))], WEB,
                                [("made", "f", ()), ("made", "f", ())], [("asked", "t", ())], [Strange()]], "web"),
    "wanted": at_index(r.BadWanted, [(None, 0), ("0", 0), ({}, 0), ([5], 0), ([0, True], 1), ([1, 1, -1], 2),
                                     ([1.0], 0),
                                     ([0, [0]], 1), ([HUGE], 0), ([Strange()], 0)])}
SCRIPT = ([step("a", "f"), step("b", "g", "a"), ("copy", "c", "a"), step("a", "h", "a", "c"), step("c", "k", "b", "a")],
          ["c", "b", "c"])
NO_SCRIPTS = [None, (), "script", ([], []), (SCRIPT[0], ["c", "b"]), (SCRIPT[0], ["c", "a", "c"]),
              (SCRIPT[0][1:], SCRIPT[1]),
              (SCRIPT[0] + [("show", "c")], SCRIPT[1]), (*SCRIPT, 0), Strange()]
HANDS_REFUSED = just(r.BadHandCount, [None, 0, -1, True, "2", 2.0, [2], Strange()], "hands")
LOTS = [[0], [1, 2], [3]]

ORDER_PAGE = Page([[step("x", "f")], [("show", "x")], [step("y", "g", "x")], [step("x", "f")]])
ORDER_REFUSED = at_index(e.BadOrder, [(None, 0), ("0123", 0), ({}, 0), ([0, 1, 2], 4), ([0, 0], 1), ([4], 0),
                                      ([0, True], 1),
                                      ([0, 1, 2, 3, 3], 4), ([2.0], 0), ([HUGE], 0), ([0, -1], 1), ([1, "0"], 1)])
PAIR_REFUSED = [(thing, r.BadPair, {"one": thing, "other": 1}) for thing in (None, 4, -1, True, "0", 0.0, HUGE)]
OTHERS_REFUSED = [(thing, r.BadPair, {"one": 0, "other": thing}) for thing in (None, 4, -1, True, "1", 1.0, HUGE)]

TELL = ("tell", "g", ["p"], [("set", "q", "f", ["p", "a"]), ("call", "q", "h", ["q"])], "q")
WIDE = WidePage([[step("a", "k"), ("tell", "h", ["p"], [("copy", "q", "p")], "q")],
                 [TELL, ("call", "b", "g", ["a"]), ("show", "b")],
                 [("call", "a", "h", ["b"])]])
TRUE_WIDE = WidePage([[step("a", "k"), TELL], [("tell", "h", ["p"], [], "p"), ("call", "b", "g", ["a"]),
                                               ("show", "b")]])
WIDE_STAND = {"h": (["p"], [("copy", "q", "p")], "q"), "b": 3, "a": 0}
WIDE_REFUSED = just(r.BadWide, [None, [], Page([]), "wide", 0], "wide")
SOUND_WIDE_REFUSED = WIDE_REFUSED + [(WidePage([[], [("call", "x", "g", [])]]), e.Unsound, {"index": 1})]
WIDE_LOT = [{}, {"a": 0, "g": 0}, {"b": 1, "a": 0, "g": 0, "h": 1}, {"h": 1}, {"h": 1, "a": 0, "g": 0}]

BOXES = BoxPage([[step("x", "e")], [("copy", "y", "x")], [("change", "y", "f", ["x"]), ("show", "x"), step("x", "e"),
                                                          ("copy", "y", "x")]])
TRUE_BOXES = BoxPage([[step("x", "e"), ("copy", "y", "x")],
                      [("change", "y", "f", ["x"]), ("show", "x"), step("x", "e"), ("copy", "y", "x")]])
STANDING = [(["a", "c"], 3), (["b"], 0)]
BOXES_REFUSED = just(r.BadBoxPage, [None, [], Page([]), "boxes", 0], "boxpage")
SOUND_BOXES_REFUSED = BOXES_REFUSED + [(BoxPage([[], [("change", "x", "f", [])]]), r.UnsoundBoxes, {"index": 1})]
STANDING_REFUSED = just(r.BadStanding, [None, {}, "", [None], [("a", 0)], [([], 0)], [(["b", "a"], 0)], [(["a"], 2)],
                                        [(["a"], 10)],
                                        [(["a"], True)], [(["a"], 0), (["a"], 1)], [(["b"], 0), (["a"], 0)],
                                        [Strange()]], "standing")

EDITED = Page([PLAIN_CELLS[0], [step("y", "k", "x"), ("show", "y")], PLAIN_CELLS[2]])
OTHER_REFUSED = just(r.BadOtherPage, [None, PLAIN_CELLS, Page(PLAIN_CELLS[:2]), Page([PLAIN_CELLS[1]] * 3), "page",
                                      0], "other")
FRESH = {"page": PLAIN, "runs": [0, 2, 1]}
FRESH_REFUSED = {"page": SOUND_REFUSED, "runs": RUNS_REFUSED}


def text_refused(error, passed):
    """The error with the line and the sign that each thing has beside it."""
    return [(thing, error, {"line": line, "sign": sign}) for thing, line,
            sign in [(None, 0, 0), (b"", 0, 0), (["\n"], 0, 0), *passed]]


MANY_REFUSED = just(r.BadMany, [None, -1, True, "3", 3.0, [3], Strange()], "many")
CASES = {"web": WEB, "one": 4, "other": 7}
CASES_REFUSED = {"web": WEB_REFUSED, "one": PART_REFUSED, "other": PART_REFUSED}
TREE = ("asked", 2, ("like",), ("like",))
VIEWS = [[], [("x", -1)], [("x", 0), ("y", 2)]]

SAMPLES_LAST = [
    (flow_fault, {**KEEP, "thing": [(2, [4, 0]), (1, [2, 1])]}, {**KEEP_REFUSED, "thing": ANYTHING}),
    (flow_sum, {"flow": [(2, [4, 0]), (1, [2, 1])]}, {
        "flow": just(r.BadFlow, [None, "", {}, [None], [(0, [])], [(True, [])], [(1, "2")], [(1,)],
                                 [(1, []), (-1, [])]], "flow")}),
    (least_keeping, KEEP, KEEP_REFUSED),
    (shelf_worth, {**KEEP, "index": 1}, {**KEEP_REFUSED, "index": just(r.BadIndex,
                                                                       [None, 5, -1, True, "0", 0.0, HUGE], "index")}),
    (fewest_at_hand, {**KEEP, "price": 3}, {**KEEP_REFUSED, "price": just(r.BadPrice, [None, -1, True, "3", 3.0, [3]],
                                                                          "price")}),
    (needed_rows, MADE, MADE_REFUSED),
    (is_script, {**MADE, "thing": SCRIPT}, {**MADE_REFUSED, "thing": ANYTHING}),
    (script_steps, {**MADE, "script": SCRIPT}, {**MADE_REFUSED, "script": just(r.BadScript, NO_SCRIPTS, "script")}),
    (least_script, MADE, MADE_REFUSED),
    (fewest_steps, MADE, MADE_REFUSED),
    (is_plan, {**MADE, "hands": 2, "thing": [[0], [1, 2], [3]]},
     {**MADE_REFUSED, "hands": HANDS_REFUSED, "thing": ANYTHING}),
    (depth_plan, MADE, MADE_REFUSED),
    (two_plan, MADE, MADE_REFUSED),
    (two_rounds, MADE, MADE_REFUSED),
    (is_lots, {**MADE, "thing": LOTS}, {**MADE_REFUSED, "thing": ANYTHING}),
    (lots_bound, {**MADE, "lots": LOTS}, {
        **MADE_REFUSED, "lots": just(r.BadLots, [None, "", {}, [[]], [[4]], [[1], [2]], [[1, 0]], [0], [Strange()]],
                                     "lots")}),
    (lots_certificate, MADE, MADE_REFUSED),
    (breaks_at, {"page": ORDER_PAGE, "order": [3, 1, 0, 2]}, {"page": PLAIN_REFUSED, "order": ORDER_REFUSED}),
    (orders_count, {"page": ORDER_PAGE}, {"page": PLAIN_REFUSED}),
    (good_order, {"page": ORDER_PAGE, "k": 11}, {
        "page": PLAIN_REFUSED, "k": just(r.BadK, [None, 12, -1, True, "0", 0.0, HUGE, [0]], "k")}),
    (always_ahead, {"page": PLAIN}, {"page": PLAIN_REFUSED}),
    (turned_order, {"page": ORDER_PAGE, "one": 0, "other": 1},
     {"page": PLAIN_REFUSED, "one": PAIR_REFUSED, "other": OTHERS_REFUSED}),
    (move_lets, {"page": ORDER_PAGE, "place": 3}, {
        "page": PLAIN_REFUSED, "place": just(e.BadPlace, [None, 4, -1, True, "0", 0.0, [0], Strange()], "place")}),
    (fewest_moves, {"page": ORDER_PAGE, "order": [3, 1, 0, 2]}, {"page": PLAIN_REFUSED, "order": ORDER_REFUSED}),
    (is_wide_cell, {"thing": [TELL, ("call", "x", "g", ["a"])]}, {"thing": ANYTHING}),
    (wide_ran, {"web": WEB, "stand": WIDE_STAND, "cell": [TELL, ("call", "x", "g", ["b"]), ("show", "x"),
                                                          ("copy", "y", "h")]}, {
        "web": WEB_REFUSED,
        "stand": just(r.BadWideStand, NO_STANDS + [{"a": ([], [])}, {"a": (["p", "p"], [], "p")}, {"a": ()}], "stand"),
        "cell": just(r.BadWideCell, [None, "set", 3, [("if", "t", [], [], [])], [("call", "x", "g")]], "cell")}),
    (wide_top, {"wide": WIDE}, {"wide": SOUND_WIDE_REFUSED}),
    (wide_at, {"wide": WIDE, "runs": [0, 1, 2, 1]}, {"wide": SOUND_WIDE_REFUSED, "runs": RUNS_REFUSED}),
    (wide_lot, {"wide": TRUE_WIDE}, {"wide": SOUND_WIDE_REFUSED}),
    (is_wide_lot, {"wide": TRUE_WIDE, "thing": WIDE_LOT}, {"wide": SOUND_WIDE_REFUSED, "thing": ANYTHING}),
    (looked_up, {"wide": WIDE, "place": 1}, {"wide": SOUND_WIDE_REFUSED, "place": PLACE_REFUSED}),
    (sure_names, {"wide": WIDE}, {"wide": SOUND_WIDE_REFUSED}),
    (box_run, {"web": WEB, "standing": STANDING, "boxcell": [("change", "c", "f", ["b"]), ("copy", "d", "a"),
                                                             ("show", "d")]}, {
        "web": WEB_REFUSED, "standing": STANDING_REFUSED,
        "boxcell": just(r.BadBoxCell, [None, "set", 3, [("if", "t", [], [], [])], [("change", "x", "f")]], "boxcell")}),
    (box_top, {"boxpage": BOXES}, {"boxpage": SOUND_BOXES_REFUSED}),
    (box_row, {"boxpage": BOXES}, {"boxpage": SOUND_BOXES_REFUSED}),
    (is_box_row, {"boxpage": BOXES, "thing": [0, 2]}, {"boxpage": SOUND_BOXES_REFUSED, "thing": ANYTHING}),
    (box_lot, {"boxpage": TRUE_BOXES}, {"boxpage": SOUND_BOXES_REFUSED}),
    (is_box_lot, {"boxpage": TRUE_BOXES, "thing": [[], [(["x", "y"], 0)]]},
     {"boxpage": SOUND_BOXES_REFUSED, "thing": ANYTHING}),
    (shared, {"boxpage": TRUE_BOXES}, {"boxpage": SOUND_BOXES_REFUSED + [(BOXES, r.Misleads, {})]}),
    (marks, FRESH, FRESH_REFUSED),
    (stale_at, FRESH, FRESH_REFUSED),
    (mends, {**FRESH, "again": [0, 1]}, {**FRESH_REFUSED, "again": RUNS_REFUSED}),
    (mending, FRESH, FRESH_REFUSED),
    (one_more, FRESH, FRESH_REFUSED),
    (touched, {"page": PLAIN, "other": EDITED}, {"page": SOUND_REFUSED, "other": OTHER_REFUSED}),
    (sure, {"page": PLAIN, "other": EDITED}, {"page": SOUND_REFUSED, "other": OTHER_REFUSED}),
    (anew, {"page": PLAIN, "other": EDITED}, {"page": SOUND_REFUSED, "other": OTHER_REFUSED}),
    (web_text, {"web": WEB}, {"web": WEB_REFUSED}),
    (read_web, {"text": web_text(WEB)}, {"text": text_refused(r.BadWebText, [("made f 0\n", 1, 7), ("made f", 1, 7)])}),
    (web_text_fault, {"text": "made f\nmade f"}, {"text": ANYTHING}),
    (stand_text, {"web": WEB, "stand": {"x": 3, "b": 0}}, {"web": WEB_REFUSED, "stand": STAND_REFUSED}),
    (read_stand, {"web": WEB, "text": "b 0\nx 3\n"}, {
        "web": WEB_REFUSED, "text": text_refused(r.BadStandText, [("b 0\na", 2, 1), ("b 2", 1, 3)])}),
    (stand_text_fault, {"web": WEB, "text": "b 0\nx 8"}, {"web": WEB_REFUSED, "text": ANYTHING}),
    (runs_text, {"many": 3, "runs": [0, 2, 1, 0]}, {"many": MANY_REFUSED, "runs": just(e.BadRuns, NO_RUNS, "runs")}),
    (read_runs, {"many": 3, "text": "0 2 1 0\n"}, {
        "many": MANY_REFUSED, "text": text_refused(r.BadRunsText, [("0 3", 1, 3), ("", 1, 1)])}),
    (runs_text_fault, {"many": 3, "text": "0 2\n1"}, {"many": MANY_REFUSED, "text": ANYTHING}),
    (meaning_text, {"web": WEB, "meaning": MEANING}, {
        "web": WEB_REFUSED, "meaning": just(e.BadMeaning, [None, [], MEANING[:-1], MEANING + [0], "0", [0] * 10],
                                            "meaning")}),
    (read_meaning, {"web": WEB, "text": meaning_text(WEB, MEANING)}, {
        "web": WEB_REFUSED, "text": text_refused(r.BadMeaningText, [("0 0 no 1", 1, 8), ("0 0 yes 0", 1, 10)])}),
    (meaning_text_fault, {"web": WEB, "text": "0 0 no 1"}, {"web": WEB_REFUSED, "text": ANYTHING}),
    (cases_text, {**CASES, "tree": TREE}, {
        **CASES_REFUSED, "tree": just(r.BadTree, [None, ("like",), ("asked", 2), "like",
                                                  ("asked", 0, ("like",), ("like",))], "tree")}),
    (read_cases, {**CASES, "text": "asked 2\n. like\n. like\n"}, {
        **CASES_REFUSED, "text": text_refused(r.BadCasesText, [("like\n", 1, 1), ("asked 2\n", 2, 1)])}),
    (cases_text_fault, {**CASES, "text": "asked 2\n. like\n.. like\n"}, {**CASES_REFUSED, "text": ANYTHING}),
    (views_text, {"views": VIEWS}, {"views": at_index(r.BadViewsForm, [
        (None, 0), ("", 0), ([None], 0), ([[], [("x", -2)]], 1), ([[("x", 0), ("x", 0)]], 0), ([[("x", True)]], 0)])}),
    (read_views, {"text": views_text(VIEWS)}, {"text": text_refused(r.BadViewsText, [("x=-1", 1, 3), ("x=1", 1, 4)])}),
    (views_text_fault, {"text": "x=0 w=1\n"}, {"text": ANYTHING}),
]

# Calls of which nothing comes, or where nothing is run.
NONE_WIDE = WidePage([])
NONE_BOXES = BoxPage([])
EMPTY_KEEP = {"web": [], "making": [], "loading": [], "wanted": []}
NOTHING_LAST = [
    (least_keeping, EMPTY_KEEP),
    (least_keeping, {**KEEP, "wanted": []}),
    (flow_fault, {**EMPTY_KEEP, "thing": []}),
    (flow_sum, {"flow": []}),
    (fewest_at_hand, {**EMPTY_KEEP, "price": 0}),
    (least_script, {"web": MADE_WEB, "wanted": []}),
    (depth_plan, {"web": [], "wanted": []}),
    (two_plan, {"web": MADE_WEB, "wanted": []}),
    (lots_certificate, {"web": MADE_WEB, "wanted": []}),
    (good_order, {"page": NO_CELLS_AT_ALL, "k": 0}),
    (always_ahead, {"page": NO_CELLS_AT_ALL}),
    (turned_order, {"page": PLAIN, "one": 0, "other": 1}),
    (wide_ran, {"web": WEB, "stand": WIDE_STAND, "cell": []}),
    (wide_ran, {"web": WEB, "stand": WIDE_STAND, "cell": [("copy", "k", "h"), ("copy", "m", "h")]}),
    (wide_ran, {"web": WEB, "stand": WIDE_STAND, "cell": [("show", "h")]}),
    (wide_top, {"wide": NONE_WIDE}),
    (wide_lot, {"wide": NONE_WIDE}),
    (wide_lot, {"wide": WIDE}),
    (wide_at, {"wide": WIDE, "runs": []}),
    (box_run, {"web": WEB, "standing": STANDING, "boxcell": []}),
    (box_run, {"web": WEB, "standing": [], "boxcell": [("show", "x")]}),
    (box_top, {"boxpage": NONE_BOXES}),
    (box_lot, {"boxpage": NONE_BOXES}),
    (box_lot, {"boxpage": BOXES}),
    (box_row, {"boxpage": TRUE_BOXES}),
    (shared, {"boxpage": NONE_BOXES}),
    (marks, {"page": PLAIN, "runs": []}),
    (mending, {"page": PLAIN, "runs": [0, 1, 2]}),
    (one_more, {"page": PLAIN, "runs": [0, 1, 2]}),
    (sure, {"page": WITH_IF, "other": WITH_IF}),
    (anew, {"page": NO_CELLS_AT_ALL, "other": NO_CELLS_AT_ALL}),
    (read_web, {"text": ""}),
    (read_stand, {"web": [], "text": ""}),
    (read_runs, {"many": 0, "text": "\n"}),
    (read_meaning, {"web": [], "text": "\n"}),
    (read_views, {"text": ""}),
    (views_text_fault, {"text": ""}),
]
