"""[2.1], [2.2]: what holds of every function."""

import copy
import unittest

from pagestrue import errors, refusals
from pagestrue.pages import Page
from tests.making import Strange, as_lists, as_tuples, strange_things
from tests import samples, samples_last, samples_more

SAMPLES = samples.SAMPLES + samples_more.SAMPLES_MORE + samples_last.SAMPLES_LAST
CALLS = [(function, passed) for function, passed, _ in SAMPLES]
CALLS += samples.NOTHING_RUN + samples_more.NOTHING_MORE + samples_last.NOTHING_LAST


def same_kind(thing, other):
    """Whether both are the same to the kinds of all that is in them."""
    if type(thing) is not type(other):
        return False
    if isinstance(thing, (list, tuple)):
        return len(thing) == len(other) and all(map(same_kind, thing, other))
    if isinstance(thing, dict):
        return list(thing) == list(other) and all(same_kind(thing[key], other[key]) for key in thing)
    return thing == other


def changeable(thing):
    """All lists and dicts in it, each as often as it stands there."""
    if isinstance(thing, (list, dict)):
        yield thing
    if isinstance(thing, (list, tuple)):
        for one in thing:
            yield from changeable(one)
    if isinstance(thing, dict):
        for key in thing:
            yield from changeable(thing[key])


def spoil(thing):
    """Change all lists and dicts in it."""
    for one in list(changeable(thing)):
        if isinstance(one, list):
            one.append("spoilt")
        else:
            one["spoilt"] = "spoilt"


def nearly(thing, spoilers):
    """The thing with one of the things in it exchanged, taken away or put in twice."""
    yield from spoilers
    if isinstance(thing, (list, tuple)):
        kind = type(thing)
        for at, one in enumerate(thing):
            for other in nearly(one, spoilers):
                yield kind([*thing[:at], other, *thing[at + 1:]])
            yield kind([*thing[:at], *thing[at + 1:]])
            yield kind([*thing[:at], one, one, *thing[at + 1:]])
    if isinstance(thing, dict):
        for key in thing:
            for other in nearly(thing[key], spoilers):
                yield {**thing, key: other}
            yield {one: thing[one] for one in thing if one != key}
            yield {1: thing[key], **thing}


class WordsTest(unittest.TestCase):
    def test_lists_and_tuples_mean_the_same(self):
        for function, passed in CALLS:
            told = function(**passed)
            for key in list(passed) + [None]:
                for other in (as_lists, as_tuples):
                    with self.subTest(function=function.__name__, key=key, other=other.__name__):
                        mixed = {**passed, key: other(passed[key])} if key else other(passed)
                        self.assertTrue(same_kind(told, function(**mixed)))

    def test_names_and_places_of_parameters(self):
        for function, passed in CALLS:
            with self.subTest(function=function.__name__):
                self.assertEqual(function(*passed.values()), function(**passed))
                names = function.__code__.co_varnames[:function.__code__.co_argcount]
                self.assertEqual(names, tuple(passed))
                self.assertIsNone(function.__defaults__)

    def test_nothing_passed_is_changed(self):
        for function, passed in CALLS:
            with self.subTest(function=function.__name__):
                mine = as_lists(passed)
                cells = {key: mine[key].cells() for key in mine if isinstance(mine[key], Page)}
                before = copy.deepcopy({key: mine[key] for key in mine if key not in cells})
                told = function(**mine)
                spoil(told)
                self.assertEqual({key: mine[key] for key in before}, before)
                for key in cells:
                    self.assertEqual(mine[key].cells(), cells[key])

    def test_told_things_are_new(self):
        for function, passed in CALLS:
            with self.subTest(function=function.__name__):
                told = function(**passed)
                if isinstance(told, Page):
                    told = told.cells()
                own = list(changeable(told))
                self.assertEqual(len(own), len({id(one) for one in own}))
                given = {id(one) for one in changeable(list(passed.values()))}
                self.assertFalse(given & {id(one) for one in own})
                before = copy.deepcopy(told)
                spoil(told)
                again = function(**passed)
                self.assertTrue(same_kind(again.cells() if isinstance(again, Page) else again, before))

    def test_the_order_of_passed_dicts_plays_no_part(self):
        for function, passed in CALLS:
            with self.subTest(function=function.__name__):
                turned = {}
                for key, thing in passed.items():
                    if isinstance(thing, dict):
                        thing = {one: thing[one] for one in reversed(list(thing))}
                    turned[key] = thing
                self.assertTrue(same_kind(function(**passed), function(**turned)))

    def test_a_page_is_not_changed_later(self):
        sides = [("copy", "x", "x")]
        names = ["x"]
        cells = [[("set", "x", "f", names)], [("if", "t", names, sides, sides)]]
        page = Page(cells)
        before = copy.deepcopy(cells)
        cells.append([])
        cells[0].append(("show", "x"))
        names.append("y")
        sides.append(("show", "x"))
        self.assertEqual(page.cells(), before)
        spoil(page.cells())
        self.assertEqual(page.cells(), before)
        told = list(changeable(page.cells()))
        self.assertEqual(len(told), len({id(one) for one in told}))

    def test_is_and_fault_take_any_object(self):
        for function, passed, refused in SAMPLES:
            name = function.__name__
            if name.startswith("is_") and name != "is_enough" or name.endswith("_fault"):
                key = list(passed)[-1]
                for thing in strange_things():
                    with self.subTest(function=name):
                        told = function(**{**passed, key: thing})
                        if name.startswith("is_"):
                            self.assertIs(type(told), bool)
                        else:
                            self.assertIn(type(told), (tuple, int, type(None)))

    def test_is_and_fault_take_what_is_nearly_right(self):
        spoilers = [Strange(), [Strange()], None, True, -1, 10 ** 5000, 0.0, "", "x", [], {}, {"x": 0}, (0, 0)]
        for function, passed in CALLS:
            name = function.__name__
            key = list(passed)[-1]
            if key == "thing":
                for thing in nearly(passed[key], spoilers):
                    told = function(**{**passed, key: thing})
                    if name.startswith("is_"):
                        self.assertIs(type(told), bool, name)

    def test_equal_pages(self):
        cells = [[("set", "x", "f", [])], []]
        page = Page(cells)
        self.assertTrue(page == Page(as_tuples(cells)))
        self.assertFalse(page != Page(as_lists(cells)))
        for other in (Page(cells[:1]), Page(cells[::-1]), cells, None, 0, "page", tuple(cells)):
            self.assertFalse(page == other)
            self.assertTrue(page != other)
        self.assertEqual(Page([]), Page(()))


class ErrorsTest(unittest.TestCase):
    PARAMETERS = {
        "cell": ["BadCell"], "page": ["BadPage"], "names": ["BadNames"], "name": ["BadName"],
        "other": ["BadOtherCell"], "stand": ["BadStand"], "runs": ["BadRuns"], "row": ["BadRow"],
        "place": ["BadTurn", "BadPlace"], "part": ["BadPart"], "its": ["BadIts"],
        "truths": ["BadTruths"], "meaning": ["BadMeaning"], "what": ["BadWhat"],
        "parting": ["BadParting"], "wished": ["BadWished"], "history": ["BadHistory"], "at": ["BadAt"],
        "another": ["BadAnother"],
        "index": ["BadCells", "Unsound", "BadWeb", "BadOther", "BadParts", "BadChoices", "HasIf",
                  "BadPlaces", "BadPlain", "BadViews", "BadNumbers", "BadStrangers", "BadLot",
                  "BadValues", "BadHands", "BadOrder"]}
    REFUSALS = {
        "k": ["BadK"], "plan": ["BadPlan"], "flow": ["BadFlow"], "price": ["BadPrice"], "web": ["BadPlainWeb"],
        "script": ["BadScript"], "hands": ["BadHandCount"], "lots": ["BadLots"], "wide": ["BadWide"],
        "stand": ["BadWideStand"], "cell": ["BadWideCell"], "boxpage": ["BadBoxPage"], "standing": ["BadStanding"],
        "boxcell": ["BadBoxCell"], "row": ["Misleads"], "other": ["BadOtherPage"], "place": ["BadPut"],
        "tag": ["NoTag"], "many": ["BadMany"], "tree": ["BadTree"],
        "index": ["BadFences", "BadMaking", "BadLoading", "BadWanted", "BadIndex", "BadWideCells",
                  "BadBoxCells", "UnsoundBoxes", "BadViewsForm"]}
    TEXTS = ["BadWebText", "BadStandText", "BadRunsText", "BadMeaningText", "BadCasesText", "BadViewsText"]

    def keeps(self, module, parameters):
        """Each class keeps what it is made with; how many classes there are."""
        many = 0
        for key, names in parameters.items():
            for name in names:
                error = getattr(module, name)
                self.assertEqual(error.__bases__, (errors.PageError,))
                self.assertEqual(error.__module__, module.__name__)
                for thing in strange_things():
                    self.assertIs(getattr(error(thing), key), thing)
                    made = error(**{key: thing})
                    self.assertIs(getattr(made, key), thing)
                    str(made)
                many += 1
        return many

    def test_each_keeps_the_very_things(self):
        self.assertEqual(self.keeps(errors, self.PARAMETERS), 36)
        self.assertEqual(self.keeps(refusals, self.REFUSALS), 29)

    def test_line_and_sign(self):
        kinds = [errors.BadPageText] + [getattr(refusals, name) for name in self.TEXTS]
        for error in kinds:
            self.assertEqual(error.__bases__, (errors.PageError,))
            told = error(sign=10 ** 5000, line=Ellipsis)
            self.assertEqual((told.line, told.sign), (Ellipsis, 10 ** 5000))
            self.assertEqual((error(3, 4).line, error(3, 4).sign), (3, 4))

    def test_pairs(self):
        one = Strange()
        told = refusals.BadPair(other=10 ** 5000, one=one)
        self.assertIs(told.one, one)
        self.assertEqual(told.other, 10 ** 5000)
        self.assertEqual(refusals.BadPair(1, 2).other, 2)
        self.assertEqual(refusals.BadPair.__bases__, (errors.PageError,))

    def test_page_error(self):
        self.assertEqual(errors.PageError.__bases__, (ValueError,))
        errors.PageError()

    def refusal(self, function, passed):
        with self.assertRaises(errors.PageError) as caught:
            function(**passed)
        return caught.exception

    def test_each_parameter_refuses(self):
        for function, passed, refused in SAMPLES:
            self.assertEqual(list(passed), list(refused))
            for key, wrongs in refused.items():
                for wrong, error, told in wrongs:
                    with self.subTest(function=function.__name__, wrong=wrong):
                        raised = self.refusal(function, {**passed, key: wrong})
                        self.assertIs(type(raised), error)
                        for word, thing in told.items():
                            mine = getattr(raised, word)
                            self.assertTrue(mine is thing or (word == "index" and mine == thing)
                                            or word in ("line", "sign") and mine == thing)

    def test_the_first_parameter_is_due(self):
        for function, passed, refused in SAMPLES:
            keys = [key for key in refused if refused[key]]
            for at, key in enumerate(keys):
                for later in keys[at + 1:]:
                    for wrong, error, _ in refused[key][:3]:
                        for other in refused[later][:3]:
                            with self.subTest(function=function.__name__):
                                both = {**passed, key: wrong, later: other[0]}
                                self.assertIs(type(self.refusal(function, both)), error)

    def test_huge_things_are_kept(self):
        huge = 10 ** 6000
        for function, passed, refused in SAMPLES:
            for key in refused:
                if refused[key] and key in ("part", "place", "its", "cell", "page", "stand", "row"):
                    with self.subTest(function=function.__name__):
                        self.assertIs(getattr(self.refusal(function, {**passed, key: huge}),
                                              key), huge)


if __name__ == "__main__":
    unittest.main()
