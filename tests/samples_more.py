"""For each function of sections 8 to 15 a call that tells something, and what is refused."""

from pagestrue import errors as e
from pagestrue import refusals as r
from pagestrue.againlots import enough_lots, needed_lots
from pagestrue.againrows import come_again, fewest_runs, first_loss, is_again
from pagestrue.againviews import views_along
from pagestrue.allstands import all_stands, is_closed
from pagestrue.comings import can_run, can_stand, is_ring, makes, ring_of
from pagestrue.fences import fenced_counts, keeps_fences, least_fences
from pagestrue.keepplans import plan_fault, plan_price
from pagestrue.liveparts import fewest_cells, live_page, live_statements
from pagestrue.nevers import is_never, lacking
from pagestrue.opencertificates import fewest_asked, is_enough, is_open_certificate, open_certificate
from pagestrue.pagenumbers import (histories, history_shown, is_history, is_history_with, is_numbers,
                                   lacking_numbers)
from pagestrue.pages import Page
from pagestrue.passes import is_pass, parts_by, pass_of, words_by
from pagestrue.rounds import comes_round
from pagestrue.savedpages import bearing, is_none_certificate, saved, sure_runs
from pagestrue.savedvalues import bears, value_clash
from pagestrue.savedwords import fewest_doubts, saved_words
from pagestrue.steadiness import conflicts, is_straying, straying
from pagestrue.steadynames import other_naming, steady_names, steady_naming
from pagestrue.weavecounts import kth_order, woven_counts
from pagestrue.weaves import stands_behind, strays, woven
from tests.making import Strange
from tests.samples import (ANYTHING, NO_PAGES, PAGE_REFUSED, PLAIN, PLAIN_REFUSED,
                           RUNS_REFUSED, UNSOUND, UNSOUND_IF, WEB, WEB_REFUSED, WITH_IF, at_index, just)


def step(name, does, *names):
    return ("set", name, does, list(names))


# Pages that may be unsound, but have no ifs.
IFLESS_REFUSED = PAGE_REFUSED + [(WITH_IF, e.HasIf, {"index": 1}), (UNSOUND_IF, e.HasIf, {"index": 1})]
PLACE_REFUSED = just(e.BadPlace, [None, 3, -1, True, "0", 0.0, [0], Strange()], "place")
HUGE = 10 ** 5000
NO_RISING = [(None, 0), ("0", 0), ({0: 0}, 0), ([3], 0), ([0, 0], 1), ([1, 0], 1), ([0, True], 1),
             ([0, "1"], 1), ([0, 1, -1], 2), ([0, 1.0], 1), ([HUGE], 0)]

RING_PAGE = Page([[step("x", "f")], [("copy", "y", "x")], [step("x", "g", "y")]])
NO_RING = Page([[step("x", "f")], [("copy", "y", "x")], [step("x", "g")]])
COMING_WEB = [("made", "f", ()), ("made", "g", ())]
CLOSED = [{}, {"x": 0}, {"x": 1}, {"y": 0, "x": 0}, {"x": 1, "y": 1}, {"x": 1, "y": 0}, {"x": 0, "y": 1}]

AGAIN_PAGE = Page([[step("y", "g", "x")], [step("x", "h", "x")], [("copy", "z", "x")]])
AGAIN_WEB = [("made", "f", ()), ("made", "h", (0,)), ("made", "g", (1,)), ("made", "g", (0,)),
             ("made", "h", (1,)), ("given", 3)]
AGAIN = {"page": AGAIN_PAGE, "web": AGAIN_WEB, "stand": {"x": 0, "w": 5}, "wished": {"y": 2, "w": 5}}
NEVER = {"page": AGAIN_PAGE, "web": AGAIN_WEB, "stand": {"x": 4, "w": 5}, "wished": {"z": 1, "w": 5}}
NEVER_VIEWS = [[("w", 5), ("x", -1)], [("w", 5), ("x", -1), ("y", -1)],
               [("w", 5), ("x", -1), ("y", -1), ("z", -1)], [("w", 5), ("x", -1), ("z", -1)]]
NO_AGAIN_STANDS = [None, [("x", 0)], {"x": 6}, {"x": True}, {"X": 0}, {"x": -1}, {1: 0}, {"x": None}]
AGAIN_REFUSED = {
    "page": IFLESS_REFUSED,
    "web": at_index(e.BadWeb, [(None, 0), ("made", 0), ([("made", "f", ()), 5], 1)])
    + at_index(e.BadPlain, [(WEB, 2), ([("made", "f", ()), ("asked", "t", ())], 1)]),
    "stand": just(e.BadStand, NO_AGAIN_STANDS, "stand"),
    "wished": just(e.BadWished, NO_AGAIN_STANDS, "wished")}
BAD_VIEWS = at_index(e.BadViews, [
    (None, 0), ("", 0), ({}, 0), ([None], 0), ([[], None], 1), ([[], []], 1), ([[("x", -1)], []], 1),
    ([[("x", 0), ("w", 5)]], 0), ([[("x", 0), ("x", 0)]], 0), ([[("k", -1)]], 0), ([[("x", 3)]], 0),
    ([[("x", -2)]], 0), ([[("x", True)]], 0), ([[("x", None)]], 0), ([[("x",)]], 0), ([["x"]], 0),
    ([[("x", 0)], [("x", 0)]], 1), ([[("x", HUGE)]], 0), ([[], [(Strange(), 0)]], 1)])

NUMBERS_PAGE = Page([[step("x", "f")], [step("x", "g")], [step("y", "h", "x"), ("show", "y")],
                     [step("y", "h", "y"), ("show", "x")], [("show", "y")]])
NUMBERS = [1, 4, 3, 6, 0]
BAD_NUMBERS = at_index(e.BadNumbers, [
    (None, 0), ("14360", 0), ({}, 0), ([], 5), ([1, 2], 5), ([1, 4, 3, 6, 0, 0], 5), ([1, 1, 3, 6, 0], 1),
    ([1, True, 3, 6, 0], 1), ([1, -1, 3, 6, 0], 1), ([1, "2", 3, 6, 0], 1), ([1, 4, 3, 4, 3], 3),
    ([0, 0, 0, 0, None], 4), ([HUGE, 0, HUGE, 0, 0], 2), ([1.0, 2, 3, 4, 5], 0), ([1, 2, 1], 2)])
PAST = {"page": NUMBERS_PAGE, "numbers": NUMBERS}
PAST_REFUSED = {"page": IFLESS_REFUSED, "numbers": BAD_NUMBERS}
NO_LACKING = [(None, 0), ("2", 0), ({}, 0), ([1], 0), ([2, 2], 1), ([5, 2], 1), ([2, True], 1), ([6], 0),
              ([2, 5, 7], 2), ([0], 0), ([2, "5"], 1), ([2.0], 0), ([[2]], 0)]
STRANGERS_REFUSED = at_index(e.BadStrangers, NO_LACKING)
PAST_WITH = {**PAST, "strangers": [5]}
WITH_REFUSED = {**PAST_REFUSED, "strangers": STRANGERS_REFUSED}
NO_HISTORIES = [None, "", {}, [], [0, 1, 2, 1, 3], [0, 1, 2, 1, None, 3], [0, 0, 2, 1, 3, 3],
                [0, 1, 2, 1, 3, 4], [0, True, 2, 1, 3, 3], [0, 1, 2, 1, 3, 3, 3], [0, 1, 2, 1, 3, "3"]]
THING_REFUSED = {
    "place": just(e.BadPlace, [None, 4, 5, -1, True, "2", 2.0, [2]], "place"),
    "at": just(e.BadAt, [None, 1, -1, False, "0", 0.0, [0], HUGE], "at")}

SAVED_PAGE = Page([[step("x", "f")], [step("x", "g", "x"), ("show", "x")], [("show", "x")], [("show", "y")]])
SAVED_NUMBERS = [1, 3, 4, 0]
CLASHING = [[], [5], [6], []]
SAVED = {"page": SAVED_PAGE, "numbers": SAVED_NUMBERS, "values": CLASHING}
BORNE = {**SAVED, "values": [[], [5], [5], []]}
SAVED_REFUSED = {
    "page": IFLESS_REFUSED,
    "numbers": at_index(e.BadNumbers, [(None, 0), ([1, 3, 4], 4), ([1, 3, 4, 4], 3)]),
    "values": at_index(e.BadValues, [
        (None, 0), ("", 0), ({}, 0), ([], 4), ([[], [5], [6]], 4), ([[], [5], [6], [], []], 4),
        ([[1], [5], [6], []], 0), ([[], [], [6], []], 1), ([[], [5], [6, 6], []], 2), ([[], [5], 6, []], 2),
        ([[], [5], [6], [0]], 3), ([[], [True], [6], []], 1), ([[], [-1], [6], []], 1),
        ([[], ["5"], [6], []], 1), ([[], "5", [6], []], 1), ([[], [None], [6], []], 1)])}
CERTIFICATE = [([0, 1, 1, 2], ((1, 0), (2, 0))), ([0, 2, 1, 2], ((2, 0), (1, 0)))]

WOVEN_PAGE = Page([[step("x", "f"), step("y", "g", "x"), ("show", "y")], [step("x", "h"), step("y", "k", "x")],
                   []])
WOVEN = {"page": WOVEN_PAGE, "hands": [[0, 2], [1]]}
HANDS_REFUSED = {
    "page": PLAIN_REFUSED,
    "hands": at_index(e.BadHands, [(None, 0), ("01", 0), ({}, 0), ([0], 0), ([[0], None], 1), ([[0], [3]], 1),
                                   ([[True]], 0), ([[0], [1], [-1]], 2), ([["0"]], 0), ([[0], [[1]]], 1)])}
ORDER_REFUSED = at_index(e.BadOrder, [
    (None, 0), ("01", 0), ({}, 0), ([2], 0), ([0, True], 1), ([0, 0, 0, 0], 3), ([1, 1, 1], 2), ([-1], 0),
    ([0, "1"], 1), ([1, None], 1), ([0.0], 0), ([[0]], 0)])
FENCES_REFUSED = at_index(r.BadFences, [
    (None, 0), ("", 0), ({}, 0), ([None], 0), ([(0, 2)], 0), ([(0, 0), (0, 0)], 1), ([(1, 0), (0, 0)], 1),
    ([(2, 0)], 0), ([(3, 0)], 0), ([(0, True)], 0), ([(0, 0, 0)], 0), ([(0, -1)], 0), (["00"], 0),
    ([(0, 0), (1, 1)], 1), ([(HUGE, 0)], 0), ([(0, HUGE)], 0)])

KEEP_WEB = [("made", "f", ()), ("made", "g", (0,)), ("made", "h", (0, 1)), ("asked", "t", (2,)),
            ("either", 3, 0, 1)]
KEEP = {"web": KEEP_WEB, "making": [5, 2, 1, 0, 4], "loading": [3, None, 6, None, HUGE], "wanted": [2, 4]}
KEEP_REFUSED = {
    "web": WEB_REFUSED,
    "making": at_index(r.BadMaking, [(None, 0), ("52104", 0), ({}, 0), ([], 5), ([5, 2, 1, 0], 5),
                                     ([5, 2, 1, 0, 4, 4], 5), ([5, None, 1, 0, 4], 1), ([5, 2, -1, 0, 4], 2),
                                     ([5, 2, 1, False, 4], 3), (["5", 2, 1, 0, 4], 0), ([5, 2, 1, 0, 4.0], 4)]),
    "loading": at_index(r.BadLoading, [(None, 0), ("3", 0), ({}, 0), ([None], 5), ([None] * 6, 5),
                                       ([3, None, True, None, 2], 2), ([3, -1, 6, None, 2], 1),
                                       ([3, "", 6, None, 2], 1), ([3, 1, 6, None, []], 4)]),
    "wanted": at_index(r.BadWanted, [(None, 0), ("2", 0), ({}, 0), ([5], 0), ([2, 2], 1), ([2, 1], 1),
                                     ([True], 0), ([0, -1], 1), ([0, "1"], 1), ([0, 1.0], 1)])}

SAMPLES_MORE = [
    (live_statements, {"page": PLAIN, "places": [1, 2]}, {
        "page": PLAIN_REFUSED, "places": at_index(e.BadPlaces, NO_RISING)}),
    (live_page, {"page": PLAIN, "places": [1]}, {
        "page": PLAIN_REFUSED, "places": at_index(e.BadPlaces, NO_RISING)}),
    (fewest_cells, {"page": PLAIN, "place": 1}, {"page": PLAIN_REFUSED, "place": PLACE_REFUSED}),
    (can_run, {"page": UNSOUND}, {"page": IFLESS_REFUSED}),
    (can_stand, {"page": UNSOUND}, {"page": IFLESS_REFUSED}),
    (makes, {"page": RING_PAGE, "place": 2}, {"page": IFLESS_REFUSED, "place": PLACE_REFUSED}),
    (is_ring, {"page": RING_PAGE, "thing": [(1, "x", "y", False), (2, "y", "x", True)]}, {
        "page": IFLESS_REFUSED, "thing": ANYTHING}),
    (ring_of, {"page": RING_PAGE}, {"page": IFLESS_REFUSED}),
    (all_stands, {"page": NO_RING}, {"page": IFLESS_REFUSED}),
    (is_closed, {"page": NO_RING, "web": COMING_WEB, "thing": CLOSED}, {
        "page": IFLESS_REFUSED, "web": WEB_REFUSED, "thing": ANYTHING}),
    (comes_round, {"page": RING_PAGE, "ahead": [0], "again": [1, 2]}, {
        "page": IFLESS_REFUSED, "ahead": RUNS_REFUSED, "again": RUNS_REFUSED}),
    (views_along, {**AGAIN, "runs": [1, 0, 2]}, {**AGAIN_REFUSED, "runs": RUNS_REFUSED}),
    (come_again, AGAIN, AGAIN_REFUSED),
    (is_again, {**AGAIN, "thing": [1, 0]}, {**AGAIN_REFUSED, "thing": ANYTHING}),
    (lacking, {**NEVER, "views": NEVER_VIEWS[:3]}, {**AGAIN_REFUSED, "views": BAD_VIEWS}),
    (is_never, {**NEVER, "thing": NEVER_VIEWS}, {**AGAIN_REFUSED, "thing": ANYTHING}),
    (fewest_runs, AGAIN, AGAIN_REFUSED),
    (enough_lots, AGAIN, AGAIN_REFUSED),
    (needed_lots, AGAIN, AGAIN_REFUSED),
    (first_loss, {**AGAIN, "runs": [2, 1, 1, 0]}, {**AGAIN_REFUSED, "runs": RUNS_REFUSED}),
    (is_numbers, {"page": NUMBERS_PAGE, "thing": NUMBERS}, {"page": IFLESS_REFUSED, "thing": ANYTHING}),
    (lacking_numbers, PAST, PAST_REFUSED),
    (is_history, {**PAST, "thing": [0, 1, 2, 1, 3, 3]}, {**PAST_REFUSED, "thing": ANYTHING}),
    (histories, PAST, PAST_REFUSED),
    (is_history_with, {**PAST_WITH, "thing": [0, 1, 2, 1, None, 3]}, {**WITH_REFUSED, "thing": ANYTHING}),
    (history_shown, {**PAST_WITH, "history": [0, 1, 2, 1, None, 3]}, {
        **WITH_REFUSED,
        "history": just(e.BadHistory, [one for one in NO_HISTORIES if one != [0, 1, 2, 1, None, 3]]
                        + [[0, None, 2, 1, 3, 3]], "history")}),
    (pass_of, PAST_WITH, WITH_REFUSED),
    (is_pass, {**PAST_WITH, "thing": pass_of(**PAST_WITH)}, {**WITH_REFUSED, "thing": ANYTHING}),
    (parts_by, PAST_WITH, WITH_REFUSED),
    (words_by, PAST_WITH, {**WITH_REFUSED, "page": IFLESS_REFUSED + [(UNSOUND, e.Unsound, {"index": 1})]}),
    (open_certificate, {**PAST_WITH, "place": 2, "at": 0}, {**WITH_REFUSED, **THING_REFUSED}),
    (is_open_certificate, {**PAST_WITH, "place": 2, "at": 0,
                           "thing": ("two", [0, 1, 2, 1, 3, 3], [0, 2, 2, 1, 3, 3])}, {
        **WITH_REFUSED, **THING_REFUSED, "thing": ANYTHING}),
    (is_enough, {**PAST, "lot": [2, 5]}, {**PAST_REFUSED, "lot": at_index(e.BadLot, NO_LACKING)}),
    (fewest_asked, PAST, PAST_REFUSED),
    (bears, {**BORNE, "history": [0, 1, 1, 2]}, {
        **SAVED_REFUSED, "history": just(e.BadHistory, [None, [], [0, 1, 1], [0, None, 1, 2], [0, 3, 1, 2]],
                                         "history")}),
    (value_clash, {**SAVED, "history": [0, 1, 1, 2]}, {
        **SAVED_REFUSED, "history": just(e.BadHistory, [None, [], [0, 1, 1], [0, True, 1, 2]], "history")}),
    (bearing, BORNE, SAVED_REFUSED),
    (sure_runs, {**BORNE, "values": [[], [5], [5], []]}, SAVED_REFUSED),
    (saved, SAVED, SAVED_REFUSED),
    (is_none_certificate, {**SAVED, "thing": CERTIFICATE}, {**SAVED_REFUSED, "thing": ANYTHING}),
    (fewest_doubts, SAVED, SAVED_REFUSED),
    (saved_words, BORNE, SAVED_REFUSED),
    (woven, {**WOVEN, "order": [0, 1, 0]}, {**HANDS_REFUSED, "order": ORDER_REFUSED}),
    (strays, {**WOVEN, "order": [0, 1, 0]}, {**HANDS_REFUSED, "order": ORDER_REFUSED}),
    (stands_behind, {**WOVEN, "order": [0, 1, 0]}, {**HANDS_REFUSED, "order": ORDER_REFUSED}),
    (conflicts, {"page": WOVEN_PAGE}, {"page": PLAIN_REFUSED}),
    (straying, {"page": WOVEN_PAGE}, {"page": PLAIN_REFUSED}),
    (is_straying, {"page": WOVEN_PAGE, "thing": ([[0], [1]], [0, 1, 0])}, {
        "page": PLAIN_REFUSED, "thing": ANYTHING}),
    (other_naming, {"page": WOVEN_PAGE, "another": WOVEN_PAGE}, {
        "page": PLAIN_REFUSED, "another": just(e.BadAnother, NO_PAGES, "another")}),
    (steady_naming, {"page": WOVEN_PAGE}, {"page": PLAIN_REFUSED}),
    (steady_names, {"page": WOVEN_PAGE}, {"page": PLAIN_REFUSED}),
    (woven_counts, WOVEN, HANDS_REFUSED),
    (kth_order, {**WOVEN, "k": 3}, {
        **HANDS_REFUSED, "k": just(r.BadK, [None, 7, -1, True, "0", 0.0, HUGE, [0]], "k")}),
    (keeps_fences, {**WOVEN, "order": [0, 1, 0], "fences": [(0, 0)]}, {
        **HANDS_REFUSED, "order": ORDER_REFUSED, "fences": FENCES_REFUSED}),
    (fenced_counts, {**WOVEN, "fences": [(0, 0), (1, 0)]}, {**HANDS_REFUSED, "fences": FENCES_REFUSED}),
    (least_fences, WOVEN, HANDS_REFUSED),
    (plan_fault, {**KEEP, "thing": ["load", "make", "make", "out", "load"]}, {
        **KEEP_REFUSED, "thing": ANYTHING}),
    (plan_price, {**KEEP, "plan": ["load", "make", "make", "out", "load"]}, {
        **KEEP_REFUSED, "plan": just(r.BadPlan, [None, "out", {}, [], ["out"] * 5, ["load"] * 5,
                                                 ["load", "make", "make", "out", "make"],
                                                 ["load", "make", "make", "out"],
                                                 ["load", "make", "make", "out", "load", "out"],
                                                 ["load", "make", "make", "out", None]], "plan")}),
]

# Calls of which nothing comes, or where nothing is run.
EMPTY = Page([])
NOTHING_MORE = [
    (live_statements, {"page": PLAIN, "places": []}),
    (live_page, {"page": EMPTY, "places": []}),
    (all_stands, {"page": EMPTY}),
    (all_stands, {"page": UNSOUND}),
    (comes_round, {"page": RING_PAGE, "ahead": [], "again": []}),
    (views_along, {**AGAIN, "runs": []}),
    (come_again, {**AGAIN, "wished": {}}),
    (come_again, {**AGAIN, "wished": {"w": 5, "x": 0}}),
    (come_again, NEVER),
    (come_again, {"page": EMPTY, "web": [], "stand": {}, "wished": {}}),
    (come_again, {**NEVER, "page": EMPTY}),
    (fewest_runs, {**NEVER, "wished": {"z": 1, "x": 4, "w": 5}}),
    (lacking, {**NEVER, "views": []}),
    (lacking, {**NEVER, "views": NEVER_VIEWS}),
    (enough_lots, {**AGAIN, "wished": {}}),
    (needed_lots, NEVER),
    (histories, {"page": EMPTY, "numbers": []}),
    (pass_of, {"page": NUMBERS_PAGE, "numbers": [0] * 5, "strangers": []}),
    (pass_of, {**PAST, "strangers": [2, 5]}),
    (parts_by, {"page": NUMBERS_PAGE, "numbers": [0] * 5, "strangers": []}),
    (history_shown, {"page": NUMBERS_PAGE, "numbers": [0] * 5, "strangers": [], "history": []}),
    (open_certificate, {**PAST, "strangers": [2], "place": 2, "at": 0}),
    (open_certificate, {**PAST, "strangers": [], "place": 3, "at": 0}),
    (saved, BORNE),
    (bearing, {"page": EMPTY, "numbers": [], "values": []}),
    (saved, {"page": EMPTY, "numbers": [], "values": []}),
    (saved_words, SAVED),
    (saved_words, {"page": SAVED_PAGE, "numbers": [0] * 4, "values": [[]] * 4}),
    (woven, {**WOVEN, "order": []}),
    (stands_behind, {**WOVEN, "order": []}),
    (stands_behind, {"page": EMPTY, "hands": [], "order": []}),
    (straying, {"page": steady_naming(WOVEN_PAGE)}),
    (steady_naming, {"page": EMPTY}),
    (woven_counts, {"page": EMPTY, "hands": []}),
    (least_fences, {"page": EMPTY, "hands": []}),
    (least_fences, {**WOVEN, "hands": [[], [2]]}),
    (plan_fault, {"web": [], "making": [], "loading": [], "wanted": [], "thing": []}),
    (plan_price, {"web": [], "making": [], "loading": [], "wanted": [], "plan": []}),
]
