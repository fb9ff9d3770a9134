"""[3.5], [3.6], [3.7]: what cells read and set, what matters, two of them."""

import unittest

from pagestrue.cellmatters import mattering, matters
from pagestrue.cellnames import free_of, joined_cells, nest_of, reads_of, sets_of
from pagestrue.pages import is_cell
from pagestrue.runs import ran
from pagestrue.webs import joined_webs
from tests.making import a_cell
from tests.plain import over_worlds, plain_run


def stand_of(names):
    """The web and the stand in which each name has a given part of its own."""
    return [("given", at) for at in range(len(names))], {name: at for at, name in enumerate(names)}


class NamesTest(unittest.TestCase):
    def test_ordinary_cells(self):
        for cell, sets, reads, nest in [
                ([], [], [], 0), ([("show", "x")], [], ["x"], 0),
                ([("set", "x", "f", ["b", "a"]), ("copy", "c", "x")], ["c", "x"], ["a", "b"], 0),
                ([("copy", "x", "x")], ["x"], ["x"], 0), ([("if", "t", ["a"], [], [])], [], ["a"], 1),
                ([("if", "t", [], [("copy", "y", "x"), ("copy", "x", "y")],
                   [("set", "x", "f", []), ("copy", "y", "x")])], ["x", "y"], ["x"], 1),
                ([("if", "t", [], [("set", "x", "f", [])], [("set", "x", "f", [])]), ("show", "x")],
                 ["x"], [], 1),
                ([("if", "t", ["x"], [("if", "s", ["y"], [], [])], []), ("if", "t", [], [], [])],
                 [], ["x", "y"], 2),
                ([("if", "t", [], [], [("if", "s", [], [("if", "s", [], [], [])], [])])], [], [], 3)]:
            self.assertEqual((sets_of(cell), reads_of(cell), nest_of(cell)), (sets, reads, nest))

    def test_it_misses_just_where_a_read_name_lacks(self):
        for seed in range(150):
            cell = a_cell(seed)
            reads = reads_of(cell)
            web, stand = stand_of(["a", "b", "c"])
            for names in [[], ["a"], ["b"], ["c"], ["a", "b"], ["a", "c"], ["b", "c"], ["a", "b", "c"]]:
                run = ran(web, {name: stand[name] for name in names}, cell)
                self.assertEqual(run is None, any(name not in names for name in reads))
                if run is not None:
                    self.assertEqual(list(run[3]), sets_of(cell))

    def test_free_of(self):
        one = [("set", "x", "f", ["a"]), ("show", "b")]
        for other, is_free in [([], True), ([("show", "a")], True), ([("show", "x")], False),
                               ([("copy", "x", "c")], False), ([("copy", "a", "c")], False),
                               ([("set", "b", "f", [])], False), ([("copy", "y", "b")], True),
                               ([("if", "t", ["x"], [], [])], False),
                               ([("set", "y", "x", []), ("show", "y")], True)]:
            self.assertIs(free_of(one, other), is_free)
            self.assertIs(free_of(other, one), is_free)

    def test_free_cells_may_be_exchanged(self):
        many = 0
        for seed in range(2500):
            one, other = a_cell(seed, many=2, depth=1), a_cell(seed + 5000, many=2, depth=1)
            if free_of(one, other) and one and other:
                many += 1
                for names in (["a"], ["a", "b"], ["a", "b", "c"]):
                    self.check_exchange(one, other, names)
        self.assertGreater(many, 100)

    def check_exchange(self, one, other, names):
        def act(ask):
            start = {name: (name, ()) for name in names}
            first = plain_run(one, start, ask)
            second = plain_run(other, start if first is None else first[0], ask)
            turned = plain_run(other, start, ask)
            last = plain_run(one, start if turned is None else turned[0], ask)
            self.assertEqual(first and first[1:], last and last[1:])
            self.assertEqual(second and second[1:], turned and turned[1:])
        over_worlds(act)
        mine, told = self.both_runs(names, [one, other])
        its, turned = self.both_runs(names, [other, one])
        places = joined_webs(mine, its)[1]
        for run, again in zip(told, reversed(turned)):
            self.assertEqual(run is None, again is None)
            if run:
                self.assertEqual(run[0], [places[part] for part in again[0]])
                self.assertEqual(run[1], {name: places[again[1][name]] for name in again[1]})

    def both_runs(self, names, cells):
        web, stand = stand_of(names)
        told = []
        for cell in cells:
            run = ran(web, stand, cell)
            if run:
                web, stand = run[:2]
            told.append(run and run[2:])
        return web, told

    def test_joined(self):
        one = [("set", "x", "f", ("a",))]
        self.assertEqual(joined_cells(one, [["show", "x"]]), [("set", "x", "f", ["a"]), ("show", "x")])
        for seed in range(150):
            one, other = a_cell(seed), a_cell(seed + 700)
            joined = joined_cells(one, other)
            self.assertTrue(is_cell(joined))
            self.assertEqual(sets_of(joined), sorted(set(sets_of(one) + sets_of(other))))
            web, stand = stand_of(["a", "b"] if seed % 3 else ["a", "b", "c"])
            first = ran(web, stand, one)
            then = ran(first[0], first[1], other) if first else None
            if then:
                left = {**first[3], **then[3]}
                told = (then[0], then[1], first[2] + then[2], {name: left[name] for name in sorted(left)})
                self.assertEqual(ran(web, stand, joined), told)
            else:
                self.assertIsNone(ran(web, stand, joined))


def plainly_matters(cell, name):
    """What first hangs on the name, by all worlds, None without anything."""
    names = reads_of(cell)
    unlike = set()

    def act(ask):
        stand = {one: (one, ()) for one in names}
        first = plain_run(cell, stand, ask)
        second = plain_run(cell, {**stand, name: ("another", ())}, ask)
        unlike.update(("shown", at) for at, two in enumerate(zip(first[1], second[1]))
                      if two[0] != two[1])
        unlike.update(("left", x) for x in first[2] if first[2][x] != second[2][x])

    over_worlds(act)
    shown = sorted(what for what in unlike if what[0] == "shown")
    return (shown + sorted(unlike - set(shown)) + [None])[0]


class MattersTest(unittest.TestCase):
    def test_two_matter_together(self):
        # Under like tests the inner side is never come to, so no name matters alone.
        inner = ("if", "t", ["m"], [("set", "y", "p", [])], [("set", "y", "q", [])])
        cell = [("if", "t", ["n"], [inner], [("set", "y", "p", [])]), ("show", "y")]
        self.assertEqual(mattering(cell), ["m", "n"])
        alone = [("copy", "m", "n")] + cell + [("copy", "m", "y"), ("copy", "n", "y")]
        self.assertEqual(mattering(alone), [])

    def test_both_sides_alike(self):
        swap = [("if", "t", ["n"], [("copy", "p", "a"), ("copy", "q", "b")],
                 [("copy", "p", "b"), ("copy", "q", "a")]),
                ("if", "t", ["n"], [("copy", "z", "p")], [("copy", "z", "q")]),
                ("set", "p", "f", []), ("set", "q", "f", [])]
        self.assertIsNone(matters(swap, "n"))
        self.assertEqual(matters(swap, "a"), ("left", "z"))
        self.assertIsNone(matters(swap, "b"))

    def test_by_all_worlds(self):
        unread = 0
        for seed in range(250):
            cell = a_cell(seed, values=3, many=3)
            for name in reads_of(cell):
                told = matters(cell, name)
                self.assertEqual(told, plainly_matters(cell, name))
                unread += told is None
            self.assertEqual(mattering(cell), [name for name in reads_of(cell)
                                               if matters(cell, name) is not None])
        self.assertGreater(unread, 10)

    def test_without_ifs_what_goes_from_it(self):
        for seed in range(200):
            cell = a_cell(seed, depth=0, many=6)
            for name in reads_of(cell):
                hanging = {name}
                is_seen = False
                for statement in cell:
                    if statement[0] == "show":
                        is_seen = is_seen or statement[1] in hanging
                    else:
                        reads = statement[3] if statement[0] == "set" else statement[2:]
                        goes = hanging & set(reads)
                        (hanging.add if goes else hanging.discard)(statement[1])
                is_left = bool(hanging & set(sets_of(cell)))
                self.assertEqual(matters(cell, name) is not None, is_seen or is_left)


if __name__ == "__main__":
    unittest.main()
