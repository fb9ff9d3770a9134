"""[20.1] to [20.5]: a desk, its deeds, what is true on it, back and forth."""

import unittest
from itertools import product

from pagestrue.desks import Desk
from pagestrue.errors import BadCell, Unsound
from pagestrue.leastuntrue import first_untrue
from pagestrue.pages import Page
from pagestrue.passes import words_by
from pagestrue.refusals import BadPut, NoTag
from pagestrue.runs import ran
from pagestrue.twobehind import untrue_row
from tests.desking import PlainDesk
from tests.making import Strange, a_cell, as_lists, as_tuples, maker, sound_cells
from tests.plain import over_worlds, term_of


def step(name, does, *names):
    return ("set", name, does, list(names))


CELLS = [[step("x", "f")], [step("y", "g", "x"), ("show", "y")], [step("x", "h", "x")],
         [("show", "x"), ("show", "y")], [("copy", "y", "x")], [], [step("y", "f"), ("show", "y")],
         [("if", "t", ["x"], [step("y", "f")], [step("y", "g", "x")]), ("show", "y")],
         [("if", "t", ["x"], [("copy", "x", "x")], [("copy", "x", "x")]), ("show", "x")]]


class Both:
    """A desk and a plain one, by whose deeds both are led."""

    def __init__(self, test):
        self.test = test
        self.desk = Desk()
        self.plain = PlainDesk()

    def do(self, word, *passed):
        """Do a deed on both; what is told of it is held against the plain desk."""
        before = dict(self.plain.now().cards)
        done = self.plain.do(word, *passed)
        told = getattr(self.desk, word)(*passed)
        if word == "put":
            self.test.assertEqual(told, done[-1])
        elif word in ("edit", "move", "drop"):
            self.test.assertEqual(told, before[passed[0]])
        elif word == "restart" or done is None:
            self.test.assertIsNone(told)
        else:
            self.check_terms(told, self.plain.now().shown[passed[0]])

    def check_terms(self, parts, terms):
        """Parts of the desk's web, which are these terms where all tests say No."""
        web = self.desk.stands()[0]
        mine = [term_of(web, part, lambda test, its: False) for part in parts]
        self.test.assertEqual(mine, terms)

    def back(self, word):
        self.test.assertEqual(getattr(self.desk, word)(), getattr(self.plain, word)())

    def check(self):
        """All that the desk tells."""
        test, desk, now = self.test, self.desk, self.plain.now()
        test.assertEqual(desk.tags(), [tag for tag, _ in now.cards])
        test.assertEqual(desk.as_page(), Page([cell for _, cell in now.cards]))
        test.assertEqual(desk.numbers(), now.counted())
        test.assertEqual(desk.handed(), (desk.as_page(), desk.numbers()))
        for tag in desk.tags():
            test.assertEqual(desk.shown(tag) is None, tag not in now.shown)
            if tag in now.shown:
                self.check_terms(desk.shown(tag), now.shown[tag])
        web, stand = desk.stands()
        test.assertEqual(list(stand), sorted(now.values))
        self.check_terms(list(stand.values()), [now.values[name] for name in sorted(now.values)])
        miss = self.plain.first_miss()
        if miss is None:
            test.assertEqual(desk.judged(), self.plain.judged())
            test.assertEqual(desk.left(), self.plain.left())
            test.assertEqual(list(desk.left()), sorted(now.values))
        else:
            for ask in (desk.judged, desk.left):
                with test.assertRaises(Unsound) as caught:
                    ask()
                test.assertEqual(caught.exception.index, miss)

    def some_deed(self, rng):
        """A deed of right parameters, runs more often than others."""
        tags = self.desk.tags()
        dice = rng.random()
        if not tags or dice < 0.15 and len(tags) < 5:
            self.do("put", rng.randint(0, len(tags)), rng.choice(CELLS))
        elif dice < 0.25:
            self.do("edit", rng.choice(tags), rng.choice(CELLS))
        elif dice < 0.32:
            self.do("move", rng.choice(tags), rng.randrange(len(tags)))
        elif dice < 0.37:
            self.do("drop", rng.choice(tags))
        elif dice < 0.4:
            self.do("restart")
        elif dice < 0.55:
            self.back("undo")
        elif dice < 0.62:
            self.back("redo")
        else:
            self.do("run", rng.choice(tags))


class DeskTest(unittest.TestCase):
    def test_rows_of_deeds(self):
        met = {}
        for seed in range(120):
            both = Both(self)
            rng = maker(seed)
            for cell in (0, 1, 2)[:seed % 4]:
                both.do("put", cell, CELLS[cell])
            for _ in range(25):
                both.some_deed(rng)
                both.check()
                if both.plain.first_miss() is None:
                    for word in [*both.desk.judged(), *both.desk.left().values()]:
                        met[word] = met.get(word, 0) + 1
            while both.desk.undo() is not None:
                both.plain.undo()
                both.check()
            self.assertEqual(both.desk.tags(), [])
            while both.desk.redo() is not None:
                both.plain.redo()
            both.check()
        self.assertGreater(min(met[word] for word in ("none", "gone", "true", "untrue")), 50)

    def test_all_rows_of_deeds(self):
        """All rows of four deeds on a small desk."""
        deeds = [("run", 0), ("run", 1), ("edit", 0, CELLS[2]), ("edit", 0, CELLS[6]), ("move", 1, 0), ("drop", 0),
                 ("restart",), ("undo",), ("redo",), ("put", 1, CELLS[4])]
        for row in product(deeds, repeat=4):
            both = Both(self)
            both.do("put", 0, CELLS[0])
            both.do("put", 1, CELLS[1])
            for deed in row:
                if deed[0] in ("undo", "redo"):
                    both.back(deed[0])
                elif deed[0] == "restart" or deed[0] == "put" and both.desk.tags() or deed[1] in both.desk.tags():
                    both.do(*deed)
            both.check()

    def test_runs_are_runs(self):
        """Each run is that of [4.2], on what is told to stand; the web goes on."""
        for seed in range(150):
            desk = Desk()
            cells = sound_cells(seed, cells=4, depth=seed % 3, calm=0.2)
            tags = [desk.put(at, cell) for at, cell in enumerate(cells)]
            rng = maker(seed)
            for _ in range(8):
                place = rng.randrange(4)
                web, stand = desk.stands()
                told = ran(web, stand, cells[place])
                shown = desk.run(tags[place])
                if told is None:
                    self.assertIsNone(shown)
                    self.assertEqual(desk.stands(), (web, stand))
                else:
                    self.assertEqual((shown, desk.stands()), (told[2], (told[0], told[1])))
                    self.assertEqual(max(desk.numbers()), desk.numbers()[place])

    def test_true_where_nothing_misleads(self):
        """Nothing put in, edited, moved, dropped since: a page that never misleads shows nothing untrue."""
        met = {}
        for seed in range(150):
            cells = sound_cells(seed, cells=3, depth=seed % 2, calm=0.5, values=2 + seed % 2)
            desk = Desk()
            tags = [desk.put(at, cell) for at, cell in enumerate(cells)]
            rng = maker(seed)
            never = untrue_row(Page(cells)) is None
            for _ in range(8):
                desk.run(rng.choice(tags))
                words = desk.judged() + list(desk.left().values())
                self.assertFalse(never and "untrue" in words)
                met["untrue" in words] = met.get("untrue" in words, 0) + 1
            row = first_untrue(Page(cells))
            if row is not None:
                desk.restart()
                for place in row:
                    desk.run(tags[place])
                self.assertIn("untrue", desk.judged() + list(desk.left().values()))
        self.assertGreater(min(met.values()), 15)

    def test_handed_on(self):
        """What [12] tells for sure of the page and its numbers is so on this desk."""
        met = {}
        for seed in range(250):
            cells = sound_cells(seed, cells=4, values=2, calm=0.6)
            cells = [cell + [("show", name) for name in "ab" if at and name in [one[1] for one in cells[0]]]
                     for at, cell in enumerate(cells)]
            desk = Desk()
            tags = [desk.put(at, cell) for at, cell in enumerate(cells)]
            rng = maker(seed)
            for _ in range(9):
                desk.run(rng.choice(tags))
            web = desk.stands()[0]
            words = words_by(*desk.handed(), [])
            for tag, mine, judged in zip(tags, words, desk.judged()):
                self.assertEqual(mine is None, judged == "none")
                if judged == "true":
                    self.assertNotIn("untrue", mine)
                if mine is not None and all(word == "true" for word in mine):
                    self.assertEqual(judged, "true")
                if mine is not None and "untrue" in mine:
                    self.assertEqual(judged, "untrue")
                for word in mine or []:
                    met[word] = met.get(word, 0) + 1
                self.assertTrue(desk.shown(tag) is None or all(part < len(web) for part in desk.shown(tag)))
        self.assertGreater(min(met[word] for word in ("true", "untrue", "open")), 10)


class BackTest(unittest.TestCase):
    def test_no_cells(self):
        desk = Desk()
        self.assertEqual((desk.tags(), desk.as_page(), desk.numbers(), desk.handed()),
                         ([], Page([]), [], (Page([]), [])))
        self.assertEqual((desk.stands(), desk.judged(), desk.left()), (([], {}), [], {}))
        self.assertEqual((desk.undo(), desk.redo()), (None, None))
        self.assertTrue(desk == Desk())
        self.assertIsNone(desk.restart())
        self.assertEqual((desk.undo(), desk.redo(), desk.undo(), desk.undo()), ("restart", "restart", "restart", None))

    def test_tags_are_never_given_twice(self):
        desk = Desk()
        self.assertEqual([desk.put(0, []), desk.put(0, []), desk.put(1, [])], [0, 1, 2])
        self.assertEqual(desk.tags(), [1, 2, 0])
        self.assertEqual([desk.undo(), desk.undo()], ["put", "put"])
        self.assertEqual(desk.put(1, []), 3)
        self.assertEqual((desk.tags(), desk.redo()), ([0, 3], None))
        desk.drop(0)
        desk.restart()
        self.assertEqual(desk.put(0, []), 4)
        other = desk.copy()
        self.assertEqual((other.put(0, []), desk.put(0, [])), (5, 5))
        # A put that raised gives none.
        with self.assertRaises(BadCell):
            desk.put(0, None)
        self.assertEqual(desk.put(0, []), 6)
        # Done again it has the same tag.
        self.assertEqual((desk.undo(), desk.redo(), desk.tags()[0]), ("put", "put", 6))

    def test_runs_that_miss_are_no_deeds(self):
        desk = Desk()
        desk.put(0, CELLS[0]), desk.put(1, CELLS[1])
        self.assertIsNone(desk.run(1))
        self.assertEqual((desk.numbers(), desk.shown(1), desk.stands()), ([0, 0], None, ([], {})))
        self.assertEqual(desk.run(0), [])
        self.assertEqual(desk.undo(), "run")
        self.assertIsNone(desk.run(1))
        self.assertEqual(desk.redo(), "run")
        self.assertEqual((desk.numbers(), desk.undo(), desk.undo(), desk.undo(), desk.undo()),
                         ([1, 0], "run", "put", "put", None))

    def test_redo_behind_a_new_deed(self):
        desk = Desk()
        for at in range(3):
            desk.put(at, CELLS[at])
        desk.run(0), desk.run(2), desk.undo(), desk.undo()
        desk.edit(1, [])
        self.assertIsNone(desk.redo())
        self.assertEqual((desk.undo(), desk.redo(), desk.undo()), ("edit", "edit", "edit"))
        desk.move(0, 0)
        self.assertEqual((desk.redo(), desk.undo()), (None, "move"))

    def test_moves(self):
        desk = Desk()
        for at in range(3):
            desk.put(at, CELLS[at])
        desk.run(0), desk.run(1)
        self.assertEqual(desk.move(0, 2), CELLS[0])
        self.assertEqual((desk.tags(), desk.numbers(), desk.shown(0)), ([1, 2, 0], [2, 0, 1], []))
        self.assertEqual(desk.move(2, 1), CELLS[2])
        self.assertEqual((desk.tags(), desk.undo(), desk.tags()), ([1, 2, 0], "move", [1, 2, 0]))
        self.assertEqual((desk.undo(), desk.tags()), ("move", [0, 1, 2]))

    def test_edited_and_dropped(self):
        desk = Desk()
        for at in range(3):
            desk.put(at, CELLS[at])
        for tag in (0, 1, 2):
            desk.run(tag)
        self.assertEqual(desk.edit(1, CELLS[1]), CELLS[1])
        # Edited to the same text: that number counts no more, what it showed stays.
        self.assertEqual((desk.numbers(), desk.shown(1), desk.judged()), ([1, 0, 3], [1], ["true", "gone", "true"]))
        self.assertEqual(desk.left(), {"x": "true", "y": "gone"})
        self.assertEqual(desk.drop(2), CELLS[2])
        # Its names still stand.
        self.assertEqual((desk.left(), desk.stands()[1]), ({"x": "gone", "y": "gone"}, {"x": 2, "y": 1}))
        desk.run(1)
        self.assertEqual((desk.judged(), desk.left(), desk.numbers()),
                         (["true", "untrue"], {"x": "gone", "y": "untrue"}, [1, 4]))
        # Who left it is edited, run again, and leaves it no more: it is gone all the same.
        desk = Desk()
        desk.put(0, CELLS[0]), desk.run(0), desk.edit(0, []), desk.run(0)
        self.assertEqual((desk.judged(), desk.left(), desk.numbers()), (["true"], {"x": "gone"}, [2]))
        desk.edit(0, CELLS[0]), desk.run(0)
        self.assertEqual((desk.judged(), desk.left(), desk.numbers()), (["true"], {"x": "true"}, [3]))
        # Who left it is there no more, but another cell left it since.
        desk.put(1, CELLS[2]), desk.run(1), desk.drop(1), desk.run(0)
        self.assertEqual(desk.left(), {"x": "true"})

    def test_restart(self):
        desk = Desk()
        desk.put(0, CELLS[0]), desk.put(1, CELLS[1])
        desk.run(0), desk.run(1), desk.edit(0, CELLS[6])
        self.assertIsNone(desk.restart())
        self.assertEqual((desk.stands(), desk.numbers(), desk.shown(0), desk.shown(1)), (([], {}), [0, 0], None, None))
        desk.edit(0, CELLS[0])
        self.assertEqual((desk.judged(), desk.left()), (["none", "none"], {}))
        desk.run(0)
        self.assertEqual((desk.numbers(), desk.stands()), ([1, 0], ([("made", "f", ())], {"x": 0})))
        self.assertEqual([desk.undo() for _ in range(3)], ["run", "edit", "restart"])
        self.assertEqual((desk.numbers(), desk.shown(1), desk.stands()[1]), ([0, 2], [1], {"x": 0, "y": 1}))

    def test_copies_go_on_by_themselves(self):
        for seed in range(60):
            both = Both(self)
            rng = maker(seed)
            for _ in range(15):
                both.some_deed(rng)
            other = both.desk.copy()
            self.assertIs(type(other), Desk)
            self.assertTrue(other == both.desk)
            before = as_tuples([other.tags(), other.numbers(), other.stands(),
                                [other.shown(tag) for tag in other.tags()]])
            page = other.as_page()
            deeds = [one[0] for one in both.plain.deeds[::-1]]
            for _ in range(10):
                both.some_deed(rng)
            both.check()
            self.assertEqual(as_tuples([other.tags(), other.numbers(), other.stands(),
                                        [other.shown(tag) for tag in other.tags()]]), before)
            self.assertEqual(other.as_page(), page)
            self.assertEqual([other.undo() for _ in deeds] + [other.undo()], deeds + [None])


class EqualTest(unittest.TestCase):
    def desk(self, *deeds):
        told = Desk()
        for word, *passed in deeds:
            getattr(told, word)(*passed)
        return told

    def test_equal(self):
        puts = [("put", 0, CELLS[0]), ("put", 1, CELLS[1])]
        base = self.desk(*puts, ("run", 0))
        same = [self.desk(*puts, ("run", 0)), self.desk(*puts, ("run", 1), ("run", 0)), base.copy(),
                self.desk(("put", 0, CELLS[0]), ("put", 0, CELLS[1]), ("move", 0, 0), ("run", 0)),
                self.desk(*puts, ("run", 0), ("move", 0, 0)), self.desk(*puts, ("restart",), ("run", 0)),
                self.desk(*puts, ("put", 2, []), ("drop", 2), ("run", 0)), self.desk(*as_lists(puts), ("run", 0)),
                self.desk(*puts, ("run", 1), ("restart",), ("edit", 0, []), ("edit", 0, CELLS[0]), ("run", 0)),
                self.desk(*puts, ("run", 0), ("undo",), ("redo",))]
        for other in same:
            self.assertTrue(base == other)
            self.assertFalse(base != other)
        unlike = [self.desk(), self.desk(*puts), self.desk(*puts, ("run", 0), ("run", 0)),
                  self.desk(*puts, ("run", 0), ("run", 1)), self.desk(*puts, ("run", 0), ("run", 1), ("undo",)),
                  self.desk(*puts, ("run", 0), ("edit", 0, CELLS[0])),
                  self.desk(*puts, ("run", 0), ("edit", 1, CELLS[2])),
                  self.desk(*puts, ("run", 0), ("move", 1, 0)), self.desk(*puts, ("run", 0), ("drop", 1)),
                  self.desk(("put", 0, CELLS[1]), ("put", 0, CELLS[0]), ("run", 1)), Page([]), None, 0, "desk"]
        for other in unlike:
            self.assertFalse(base == other)
            self.assertTrue(base != other)

    def test_what_can_be_redone(self):
        """The words, and all that behind each."""
        base = [("put", 0, CELLS[0])]
        self.assertTrue(self.desk(*base, ("run", 0), ("undo",)) == self.desk(*base, ("run", 0), ("undo",)))
        for one, other in ((("run", 0), ("restart",)), (("edit", 0, []), ("edit", 0, CELLS[6])),
                           (("move", 0, 0), ("restart",)), (("put", 0, []), ("put", 1, []))):
            self.assertFalse(self.desk(*base, one, ("undo",)) == self.desk(*base, other, ("undo",)))
        self.assertFalse(self.desk(*base, ("run", 0), ("run", 0), ("undo",), ("undo",))
                         == self.desk(*base, ("run", 0), ("undo",)))
        # A word alike, and another state behind it.
        self.assertFalse(self.desk(*base, ("put", 1, []), ("undo",), ("undo",)) == self.desk(("put", 0, CELLS[0]),
                                                                                             ("undo",)))


class WrongTest(unittest.TestCase):
    def test_what_raises_changes_nothing(self):
        desk = Desk()
        desk.put(0, CELLS[0]), desk.put(1, CELLS[1]), desk.run(0), desk.run(1), desk.undo(), desk.drop(1), desk.undo()
        before = desk.copy()
        for place in (None, 3, -1, True, "0", 0.0, [0], Strange(), 10 ** 4000):
            for call in (lambda: desk.put(place, CELLS[0]), lambda: desk.put(place, None), lambda: desk.move(0, place)):
                with self.assertRaises(BadPut) as caught:
                    call()
                self.assertIs(caught.exception.place, place)
        with self.assertRaises(BadPut):
            desk.move(0, 2)
        for cell in (None, "set", [None], [("change", "x", "f", [])], Strange()):
            for call in (lambda: desk.put(2, cell), lambda: desk.edit(1, cell)):
                with self.assertRaises(BadCell) as caught:
                    call()
                self.assertIs(caught.exception.cell, cell)
        for tag in (None, 2, -1, True, False, "0", 0.0, [0], Strange(), 10 ** 4000):
            for call in (lambda: desk.edit(tag, None), lambda: desk.move(tag, None), lambda: desk.drop(tag),
                         lambda: desk.run(tag), lambda: desk.shown(tag)):
                with self.assertRaises(NoTag) as caught:
                    call()
                self.assertIs(caught.exception.tag, tag)
        self.assertTrue(desk == before)
        self.assertEqual((desk.redo(), desk.put(1, [])), ("drop", 2))

    def test_dropped_tags_are_gone(self):
        desk = Desk()
        desk.put(0, [])
        desk.drop(0)
        for call in (desk.run, desk.shown, desk.drop):
            with self.assertRaises(NoTag):
                call(0)
        desk.undo()
        self.assertEqual(desk.run(0), [])

    def test_unsound(self):
        desk = Desk()
        desk.put(0, CELLS[1]), desk.put(0, [])
        for call in (desk.judged, desk.left):
            with self.assertRaises(Unsound) as caught:
                call()
            self.assertEqual(caught.exception.index, 1)

    def test_parameters_by_name(self):
        desk = Desk()
        self.assertEqual(desk.put(cell=CELLS[0], place=0), 0)
        self.assertEqual(desk.edit(cell=CELLS[6], tag=0), CELLS[0])
        self.assertEqual(desk.move(place=0, tag=0), CELLS[6])
        self.assertEqual(desk.run(tag=0), [0])
        self.assertEqual(desk.shown(tag=0), [0])
        self.assertEqual(desk.drop(tag=0), CELLS[6])

    def test_told_things_are_new(self):
        desk = Desk()
        cell = [step("x", "f"), ("if", "t", [], [("copy", "y", "x")], [step("y", "g", "x")]), ("show", "x")]
        desk.put(0, cell)
        told = desk.run(0)
        before = desk.copy()
        told.append(5), desk.tags().append(5), desk.numbers().append(5), desk.shown(0).append(5)
        desk.stands()[0].append(5), desk.stands()[1].update(a=5), desk.handed()[1].append(5)
        desk.judged().append(5), desk.left().update(a=5), desk.as_page().cells()[0].append(5)
        cell[0][3].append("x"), cell[1][3].append(5), cell.append(5)
        desk.edit(0, CELLS[0]).append(5), desk.move(0, 0).append(5), desk.drop(0)[0][3].append("x")
        desk.undo(), desk.undo(), desk.undo()
        self.assertEqual(desk.as_page(), before.as_page())
        self.assertEqual((desk.shown(0), desk.stands()), (before.shown(0), before.stands()))
        self.assertEqual(desk.as_page().cells()[0][0], ("set", "x", "f", []))

    def test_lists_and_tuples(self):
        for seed in range(30):
            cell = a_cell(seed)
            one, other = Desk(), Desk()
            one.put(0, as_lists(cell)), other.put(0, as_tuples(cell))
            self.assertTrue(one == other)
            self.assertEqual(one.drop(0), other.drop(0))

    def test_alike_by_ifs(self):
        """What is another row may be true all the same."""
        desk = Desk()
        desk.put(0, CELLS[0]), desk.put(1, CELLS[7]), desk.put(2, CELLS[8])
        for tag in (0, 1, 2, 2, 1, 2):
            desk.run(tag)
        self.assertEqual(desk.judged(), ["true"] * 3)
        self.assertEqual(len(over_worlds(lambda ask: ask("t", []))), 2)


if __name__ == "__main__":
    unittest.main()
