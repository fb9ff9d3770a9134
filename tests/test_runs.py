"""[4.1], [4.2], [4.8]: one run."""

import unittest

from pagestrue.cellnames import reads_of, sets_of
from pagestrue.runs import is_stand, ran
from pagestrue.webs import is_web
from tests.making import a_cell, a_web, maker, parts_of
from tests.plain import over_worlds, plain_run, term_of


class StandTest(unittest.TestCase):
    def test_is_stand(self):
        web = [("made", "f", ()), ("asked", "t", (0,)), ("given", 3)]
        for thing in [{}, {"x": 0}, {"x": 2, "a": 0, "end": 0}]:
            self.assertIs(is_stand(web, thing), True)
        for thing in [None, [], (), {"x": 1}, {"x": 3}, {"x": -1}, {"x": True}, {"x": 0.0}, {"x": "0"},
                      {"X": 0}, {"": 0}, {0: 0}, {"abcdefghi": 0}, {"a": 0, "x": None}, [("x", 0)]]:
            self.assertIs(is_stand(web, thing), False)
        self.assertIs(is_stand([], {}), True)
        self.assertIs(is_stand([], {"x": 0}), False)


class RunTest(unittest.TestCase):
    def test_rows_as_they_come(self):
        cell = [("set", "x", "f", []), ("set", "y", "g", ["x", "a", "x"]), ("show", "y"),
                ("copy", "a", "y"), ("show", "a"), ("set", "x", "f", [])]
        web = [("given", 0), ("made", "f", ())]
        self.assertEqual(ran(web, {"b": 1, "a": 0}, cell), (
            web + [("made", "g", (1, 0, 1))], {"a": 2, "b": 1, "x": 1, "y": 2}, [2, 2],
            {"a": 2, "x": 1, "y": 2}))
        self.assertEqual(list(ran(web, {"b": 1, "a": 0}, cell)[1]), ["a", "b", "x", "y"])
        self.assertEqual(ran([], {}, []), ([], {}, [], {}))

    def test_yes_is_done_ahead_of_no(self):
        cell = [("if", "t", ["a", "b"], [("set", "y", "g", ["x"]), ("set", "x", "f", ["y"])],
                 [("set", "x", "h", ["x"]), ("copy", "y", "x")])]
        web = [("given", 0), ("given", 1), ("given", 2)]
        told = ran(web, {"a": 0, "b": 1, "x": 2}, cell)
        self.assertEqual(told[0][3:], [
            ("asked", "t", (0, 1)), ("made", "g", (2,)), ("made", "f", (4,)), ("made", "h", (2,)),
            ("either", 3, 5, 6), ("either", 3, 4, 6)])
        self.assertEqual(told[1:], ({"a": 0, "b": 1, "x": 7, "y": 8}, [], {"x": 7, "y": 8}))

    def test_both_sides_one_row(self):
        cell = [("if", "t", [], [("set", "x", "f", []), ("copy", "y", "a")],
                 [("copy", "y", "x"), ("set", "x", "f", [])])]
        web = [("given", 0)]
        self.assertEqual(ran(web, {"a": 0, "x": 0}, cell), (
            web + [("asked", "t", ()), ("made", "f", ())], {"a": 0, "x": 2, "y": 0}, [],
            {"x": 2, "y": 0}))

    def test_ifs_in_ifs(self):
        inner = ("if", "s", ["x"], [("copy", "x", "b")], [("copy", "x", "x")])
        cell = [("if", "t", ["x"], [("copy", "x", "b"), inner], [inner])]
        web = [("given", 0), ("given", 1)]
        self.assertEqual(ran(web, {"x": 0, "b": 1}, cell)[0][2:], [
            ("asked", "t", (0,)), ("asked", "s", (1,)), ("asked", "s", (0,)), ("either", 4, 1, 0),
            ("either", 2, 1, 5)])

    def test_misses(self):
        web = [("given", 0)]
        for cell in [[("show", "x")], [("set", "y", "f", ["a", "x"])], [("copy", "a", "x")],
                     [("if", "t", ["x"], [], [])], [("set", "y", "f", []), ("show", "x")],
                     [("if", "t", [], [("copy", "y", "x")], [("copy", "y", "a")])],
                     [("if", "t", [], [("copy", "y", "a")], [("copy", "y", "x")])],
                     [("if", "t", [], [("if", "t", ["x"], [], [])], [])],
                     [("show", "x"), ("set", "x", "f", [])],
                     [("if", "t", [], [("copy", "y", "a"), ("copy", "z", "y")],
                       [("copy", "z", "y"), ("copy", "y", "a")])]]:
            self.assertIsNone(ran(web, {"a": 0}, cell))

    def test_in_each_world(self):
        missed = 0
        for seed in range(200):
            rng = maker(seed)
            web = a_web(seed, rows=8, most_asked=2)
            parts = parts_of(web)
            names = rng.sample(["a", "b", "c"], rng.randint(0, 3)) if parts else []
            stand = {name: rng.choice(parts) for name in names}
            cell = a_cell(seed, many=3)
            told = ran(web, stand, cell)
            if told is None:
                missed += 1
                self.assertTrue(set(reads_of(cell)) - set(stand))
                continue
            self.assertTrue(is_web(told[0]))
            self.assertEqual(told[0][:len(web)], web)
            self.assertTrue(is_stand(told[0], told[1]))
            self.assertEqual(list(told[1]), sorted(told[1]))
            self.assertEqual(list(told[3]), sets_of(cell))
            self.assertEqual({**stand, **told[3]}, told[1])

            def act(ask):
                values = {name: term_of(web, stand[name], ask) for name in stand}
                behind, shown, left = plain_run(cell, values, ask)
                self.assertEqual(shown, [term_of(told[0], part, ask) for part in told[2]])
                self.assertEqual(left, {x: term_of(told[0], told[3][x], ask) for x in told[3]})
                self.assertEqual(behind, {x: term_of(told[0], told[1][x], ask) for x in told[1]})

            over_worlds(act)
        self.assertGreater(missed, 20)
        self.assertLess(missed, 180)


if __name__ == "__main__":
    unittest.main()
