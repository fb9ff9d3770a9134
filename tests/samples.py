"""For each function a call that tells something, and what each parameter refuses."""

from pagestrue import errors as e
from pagestrue.alikepages import pages_part
from pagestrue.alikeparts import alike_parts, are_alike, parting_meaning
from pagestrue.casetrees import case_tree, is_case_tree
from pagestrue.cellmatters import mattering, matters
from pagestrue.cellnames import free_of, joined_cells, nest_of, reads_of, sets_of
from pagestrue.leastuntrue import first_untrue, left_out
from pagestrue.meanings import choice_lists, free_meaning, is_meaning, meaning_fault
from pagestrue.misleading import is_misleading, on_top, untrue_at, untrue_meaning
from pagestrue.namesparted import clashes, fewest_names, is_parting, least_parting, needs_by, parted
from pagestrue.ownerlots import is_stop_lot, is_whole_lot, stop_lot, whole_lot
from pagestrue.pages import Page, is_cell, names_of, renamed
from pagestrue.pagetexts import page_fault, page_text, read_page, whole_text
from pagestrue.rowsofruns import hangs_on, leavers, played, stand_behind
from pagestrue.runs import is_stand, ran
from pagestrue.stops import can_stop, standing_lots, went, went_along
from pagestrue.tops import first_miss, needs, top, top_behind
from pagestrue.twobehind import safe_names, untrue_pair, untrue_row
from pagestrue.webparts import decided, depth_of, needs_of, steps_in, tests_in, thinned_web, tree_of
from pagestrue.webs import is_web, joined_webs, put_row, same_part, web_fault
from tests.making import Strange

CELL = [("set", "x", "f", ["a", "b"]), ("if", "t", ["x"], [("copy", "y", "b")], [("copy", "y", "x")]),
        ("show", "y")]
PLAIN_CELLS = [[("set", "x", "f", [])], [("set", "y", "g", ["x"]), ("show", "y")],
               [("set", "x", "h", ["x"])]]
PLAIN = Page(PLAIN_CELLS)
WITH_IF = Page([[("set", "a", "f", []), ("set", "b", "g", [])], CELL, [("set", "b", "h", [])]])
UNSOUND = Page([[("set", "x", "f", [])], [("show", "y")]])
UNSOUND_IF = Page([[("show", "y")], [("if", "t", [], [], [])]])
WEB = [("made", "f", ()), ("made", "g", ()), ("asked", "t", (0,)), ("either", 2, 0, 1),
       ("made", "h", (3,)), ("made", "h", (0,)), ("made", "h", (1,)), ("either", 2, 5, 6),
       ("asked", "t", (3,)), ("either", 8, 5, 7)]
MEANING = [0, 1, False, 1, 2, 3, 2, 2, True, 3]
LOT = [{}, {"x": 0}, {"x": 0, "y": 1}]
PARTING = {(0, "x"): 0, (1, "y"): 0, (2, "x"): 1}

NO_CELLS = [None, "set", 3, [("set", "x", "f")], [("show", "x", "y")], [["if", "t", [], [], "a"]]]
NO_PAGES = [None, PLAIN_CELLS, "cell\n", 0]
NO_WEBS = [(None, 0), ("made", 0), ({}, 0), ([("made", "f", ()), ("given", True)], 1),
           ([("made", "f", ()), ("made", "f", ())], 1), ([("given", 0), 5, 6], 1)]
NO_PARTS = [None, -1, True, 1.0, "0", 10, 2, 8, [0]]
NO_STANDS = [None, [("x", 0)], {"x": 2}, {"x": 10}, {"x": True}, {"X": 0}, {"x": -1}, {1: 0}]
NO_RUNS = [None, "0", 0, [3], [-1], [True], [0, None], {0: 0}, [[0]]]


def just(error, things, key):
    """The error with each very thing under the key."""
    return [(thing, error, {key: thing}) for thing in things]


def at_index(error, things):
    """The error with the index that each thing has beside it."""
    return [(thing, error, {"index": index}) for thing, index in things]


CELL_REFUSED = just(e.BadCell, NO_CELLS, "cell")
PAGE_REFUSED = just(e.BadPage, NO_PAGES, "page")
SOUND_REFUSED = PAGE_REFUSED + [(UNSOUND, e.Unsound, {"index": 1})]
PLAIN_REFUSED = SOUND_REFUSED + [(WITH_IF, e.HasIf, {"index": 1}), (UNSOUND_IF, e.HasIf, {"index": 1})]
WEB_REFUSED = at_index(e.BadWeb, NO_WEBS)
PART_REFUSED = just(e.BadPart, NO_PARTS, "part")
STAND_REFUSED = just(e.BadStand, NO_STANDS, "stand")
RUNS_REFUSED = just(e.BadRuns, NO_RUNS, "runs")
ANYTHING = []

# Each function with its parameters by name: what is passed, and what each of them refuses.
SAMPLES = [
    (is_cell, {"thing": CELL}, {"thing": ANYTHING}),
    (names_of, {"page": WITH_IF}, {"page": PAGE_REFUSED}),
    (renamed, {"page": PLAIN, "names": {"x": "y", "y": "end"}}, {
        "page": PAGE_REFUSED,
        "names": just(e.BadNames, [None, [], {}, {"x": "a"}, {"x": "a", "y": "a"},
                                   {"x": "a", "y": "b", "z": "c"}, {"x": "a", "y": "b", "z": "b"},
                                   {"x": "a", "z": "b"},
                                   {"x": "a", "y": "B"}, {"x": "a", "y": 1}, {"x": "a", "y": []}],
                      "names")}),
    (page_text, {"page": WITH_IF}, {"page": PAGE_REFUSED}),
    (read_page, {"text": "cell\nset x f\nif t x\nelse\nend\n"}, {"text": [
        (None, e.BadPageText, {"line": 0, "sign": 0}), (b"", e.BadPageText, {"line": 0, "sign": 0}),
        (["cell\n"], e.BadPageText, {"line": 0, "sign": 0}),
        ("cell\nset x f", e.BadPageText, {"line": 2, "sign": 8}),
        ("cell\nshw", e.BadPageText, {"line": 2, "sign": 3})]}),
    (page_fault, {"text": "cell\nset x"}, {"text": ANYTHING}),
    (whole_text, {"text": "cell\nset x"}, {"text": ANYTHING}),
    (sets_of, {"cell": CELL}, {"cell": CELL_REFUSED}),
    (reads_of, {"cell": CELL}, {"cell": CELL_REFUSED}),
    (nest_of, {"cell": CELL}, {"cell": CELL_REFUSED}),
    (free_of, {"cell": CELL, "other": [("set", "z", "f", ["c"])]}, {
        "cell": CELL_REFUSED, "other": just(e.BadOtherCell, NO_CELLS, "other")}),
    (joined_cells, {"cell": CELL, "other": CELL}, {
        "cell": CELL_REFUSED, "other": just(e.BadOtherCell, NO_CELLS, "other")}),
    (matters, {"cell": CELL, "name": "b"}, {
        "cell": CELL_REFUSED,
        "name": just(e.BadName, [None, "x", "y", "z", "", 0, ["a"], Strange()], "name")}),
    (mattering, {"cell": CELL}, {"cell": CELL_REFUSED}),
    (is_stand, {"web": WEB, "thing": {"x": 3, "b": 0}}, {"web": WEB_REFUSED, "thing": ANYTHING}),
    (ran, {"web": WEB, "stand": {"b": 3, "a": 0}, "cell": CELL}, {
        "web": WEB_REFUSED, "stand": STAND_REFUSED, "cell": CELL_REFUSED}),
    (web_fault, {"thing": WEB}, {"thing": ANYTHING}),
    (is_web, {"thing": WEB}, {"thing": ANYTHING}),
    (put_row, {"web": WEB, "row": ("made", "h", (9, 0))}, {
        "web": WEB_REFUSED,
        "row": just(e.BadRow, [None, (), "given", ("made", "f"), ("made", "F", ()), ("given", -1),
                               ("made", "f", (2,)), ("made", "f", (10,)), ("either", 2, 0, 0),
                               ("either", 0, 0, 1), ("given", True), ("made", "f", 0)], "row")}),
    (joined_webs, {"web": WEB[:4], "other": [("made", "g", ()), ("made", "f", ())]}, {
        "web": WEB_REFUSED, "other": at_index(e.BadOther, NO_WEBS)}),
    (same_part, {"web": WEB, "part": 5, "other": [("made", "f", ()), ("made", "h", (0,))], "its": 1}, {
        "web": WEB_REFUSED, "part": PART_REFUSED, "other": at_index(e.BadOther, NO_WEBS),
        "its": just(e.BadIts, [None, -1, True, 2, "1", 1.0], "its")}),
    (needs_of, {"web": WEB, "part": 9}, {"web": WEB_REFUSED, "part": PART_REFUSED}),
    (thinned_web, {"web": WEB, "parts": [7, 0]}, {
        "web": WEB_REFUSED,
        "parts": at_index(e.BadParts, [(None, 0), ("0", 0), ({0: 0}, 0), ([0, 2], 1), ([10], 0),
                                       ([0, 1, True], 2), ([0, "1"], 1)])}),
    (steps_in, {"web": WEB, "part": 9}, {"web": WEB_REFUSED, "part": PART_REFUSED}),
    (tests_in, {"web": WEB, "part": 9}, {"web": WEB_REFUSED, "part": PART_REFUSED}),
    (depth_of, {"web": WEB, "part": 9}, {"web": WEB_REFUSED, "part": PART_REFUSED}),
    (tree_of, {"web": WEB, "part": 9}, {"web": WEB_REFUSED, "part": PART_REFUSED}),
    (decided, {"web": WEB, "truths": {8: True, 2: False}}, {
        "web": WEB_REFUSED,
        "truths": just(e.BadTruths, [None, [], {0: True}, {2: 1}, {2: None}, {"2": True}, {10: True},
                                     {2.0: True}, {-8: True}, {2: True, 3: False}], "truths")}),
    (is_meaning, {"web": WEB, "thing": MEANING}, {"web": WEB_REFUSED, "thing": ANYTHING}),
    (meaning_fault, {"web": WEB, "thing": MEANING[:-1]}, {"web": WEB_REFUSED, "thing": ANYTHING}),
    (free_meaning, {"web": WEB, "choices": [False, True]}, {
        "web": WEB_REFUSED,
        "choices": at_index(e.BadChoices, [(None, 0), ("", 0), ({}, 0), ([], 0), ([False], 1),
                                           ([1, True], 0), ([True, False, None], 2),
                                           ([False, 0], 1)])}),
    (choice_lists, {"web": WEB}, {"web": WEB_REFUSED}),
    (are_alike, {"web": WEB, "one": 4, "other": 7}, {
        "web": WEB_REFUSED, "one": PART_REFUSED, "other": PART_REFUSED}),
    (parting_meaning, {"web": WEB, "one": 7, "other": 9}, {
        "web": WEB_REFUSED, "one": PART_REFUSED, "other": PART_REFUSED}),
    (alike_parts, {"web": WEB}, {"web": WEB_REFUSED}),
    (played, {"page": PLAIN, "runs": [1, 0, 2, 1]}, {"page": PAGE_REFUSED, "runs": RUNS_REFUSED}),
    (stand_behind, {"page": PLAIN, "runs": [0, 1]}, {"page": PAGE_REFUSED, "runs": RUNS_REFUSED}),
    (hangs_on, {"page": PLAIN, "runs": [1, 0, 2, 0, 1], "place": 4}, {
        "page": PAGE_REFUSED, "runs": RUNS_REFUSED,
        "place": just(e.BadTurn, [None, 0, 5, -1, True, "4", 4.0], "place")}),
    (leavers, {"page": PLAIN, "runs": [0, 2, 0, 1]}, {"page": PAGE_REFUSED, "runs": RUNS_REFUSED}),
    (first_miss, {"page": UNSOUND}, {"page": PAGE_REFUSED}),
    (top, {"page": WITH_IF}, {"page": SOUND_REFUSED}),
    (needs, {"page": UNSOUND}, {"page": PAGE_REFUSED}),
    (top_behind, {"web": WEB, "stand": {"z": 9, "y": 3}, "page": UNSOUND}, {
        "web": WEB_REFUSED, "stand": STAND_REFUSED, "page": PAGE_REFUSED}),
    (case_tree, {"web": WEB, "one": 4, "other": 7}, {
        "web": WEB_REFUSED, "one": PART_REFUSED, "other": PART_REFUSED}),
    (is_case_tree, {"web": WEB, "one": 4, "other": 7, "thing": ("asked", 2, ("like",), ("like",))}, {
        "web": WEB_REFUSED, "one": PART_REFUSED, "other": PART_REFUSED, "thing": ANYTHING}),
    (pages_part, {"page": WITH_IF, "other": Page(PLAIN_CELLS[:2]), "what": "shown"}, {
        "page": SOUND_REFUSED,
        "other": [(thing, error, told) for thing, error, told in SOUND_REFUSED],
        "what": just(e.BadWhat, [None, "", "show", 0, ["shown"], b"left", Strange()], "what")}),
    (on_top, {"page": PLAIN, "runs": [0, 2, 1, 1]}, {"page": SOUND_REFUSED, "runs": RUNS_REFUSED}),
    (untrue_at, {"page": PLAIN, "runs": [0, 2, 1]}, {"page": SOUND_REFUSED, "runs": RUNS_REFUSED}),
    (untrue_meaning, {"page": WITH_IF, "runs": [0, 2, 1]}, {
        "page": SOUND_REFUSED, "runs": RUNS_REFUSED}),
    (is_misleading, {"page": PLAIN, "thing": ([0, 2, 1], [0, 1, 2, 3])}, {
        "page": SOUND_REFUSED, "thing": ANYTHING}),
    (untrue_pair, {"page": PLAIN}, {"page": PLAIN_REFUSED}),
    (untrue_row, {"page": WITH_IF}, {"page": SOUND_REFUSED}),
    (safe_names, {"page": WITH_IF}, {"page": SOUND_REFUSED}),
    (first_untrue, {"page": WITH_IF}, {"page": SOUND_REFUSED}),
    (left_out, {"page": WITH_IF}, {"page": SOUND_REFUSED}),
    (needs_by, {"page": PLAIN}, {"page": PLAIN_REFUSED}),
    (clashes, {"page": PLAIN}, {"page": PLAIN_REFUSED}),
    (is_parting, {"page": PLAIN, "thing": PARTING}, {"page": PLAIN_REFUSED, "thing": ANYTHING}),
    (parted, {"page": PLAIN, "parting": PARTING}, {
        "page": PLAIN_REFUSED,
        "parting": just(e.BadParting, [None, [], {}, {(0, "x"): 0, (1, "y"): 0},
                                       {(0, "x"): 0, (1, "y"): 0, (2, "x"): True},
                                       {(0, "x"): 0, (1, "y"): 0, (2, "x"): -1},
                                       {(0, "x"): 0, (1, "y"): 0, (2, "y"): 0},
                                       {(0, "x"): 0, (True, "y"): 0, (2, "x"): 0},
                                       {(0, "x"): 0, (1.0, "y"): 0, (2, "x"): 0},
                                       {**PARTING, (2, "y"): 0}, {**PARTING, 0: 0}], "parting")}),
    (fewest_names, {"page": PLAIN}, {"page": PLAIN_REFUSED}),
    (least_parting, {"page": PLAIN}, {"page": PLAIN_REFUSED}),
    (went, {"web": WEB, "stand": {"b": 3}, "cell": [("copy", "c", "b"), ("show", "c"), ("show", "d")]}, {
        "web": WEB_REFUSED, "stand": STAND_REFUSED, "cell": CELL_REFUSED}),
    (went_along, {"page": PLAIN, "runs": [1, 0, 2, 1]}, {"page": SOUND_REFUSED, "runs": RUNS_REFUSED}),
    (standing_lots, {"page": WITH_IF}, {"page": SOUND_REFUSED}),
    (can_stop, {"page": WITH_IF}, {"page": SOUND_REFUSED}),
    (stop_lot, {"page": Page(PLAIN_CELLS[:2])}, {"page": SOUND_REFUSED}),
    (is_stop_lot, {"page": Page(PLAIN_CELLS[:2]), "thing": LOT}, {"page": SOUND_REFUSED, "thing": ANYTHING}),
    (whole_lot, {"page": Page(PLAIN_CELLS[:2])}, {"page": SOUND_REFUSED}),
    (is_whole_lot, {"page": Page(PLAIN_CELLS[:2]), "thing": LOT}, {"page": SOUND_REFUSED, "thing": ANYTHING}),
]

# Calls that run nothing, or nothing that does not miss: what is told must be new all the same.
BACKWARDS = {"z": 9, "y": 3, "x": 0}
NO_CELLS_AT_ALL = Page([])
NOTHING_RUN = [
    (top_behind, {"web": WEB, "stand": BACKWARDS, "page": NO_CELLS_AT_ALL}),
    (top_behind, {"web": WEB, "stand": BACKWARDS, "page": Page([[], []])}),
    (top_behind, {"web": WEB, "stand": BACKWARDS, "page": Page([[("show", "y")]])}),
    (top_behind, {"web": WEB, "stand": {}, "page": NO_CELLS_AT_ALL}),
    (ran, {"web": WEB, "stand": BACKWARDS, "cell": []}),
    (ran, {"web": WEB, "stand": BACKWARDS, "cell": [("show", "z")]}),
    (went, {"web": WEB, "stand": BACKWARDS, "cell": []}),
    (went, {"web": WEB, "stand": BACKWARDS, "cell": [("show", "a")]}),
    (joined_cells, {"cell": [], "other": []}),
    (renamed, {"page": NO_CELLS_AT_ALL, "names": {}}),
    (put_row, {"web": WEB, "row": WEB[3]}),
    (joined_webs, {"web": [], "other": []}),
    (joined_webs, {"web": WEB, "other": []}),
    (thinned_web, {"web": [], "parts": []}),
    (decided, {"web": WEB, "truths": {}}),
    (free_meaning, {"web": [], "choices": []}),
    (played, {"page": PLAIN, "runs": []}),
    (stand_behind, {"page": PLAIN, "runs": [1]}),
    (stand_behind, {"page": NO_CELLS_AT_ALL, "runs": []}),
    (leavers, {"page": PLAIN, "runs": [1, 2]}),
    (top, {"page": NO_CELLS_AT_ALL}),
    (on_top, {"page": PLAIN, "runs": []}),
    (went_along, {"page": PLAIN, "runs": []}),
    (parted, {"page": NO_CELLS_AT_ALL, "parting": {}}),
    (whole_lot, {"page": NO_CELLS_AT_ALL}),
    (standing_lots, {"page": NO_CELLS_AT_ALL}),
]
