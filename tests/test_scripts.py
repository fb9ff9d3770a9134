"""[16.1] to [16.4]: scripts with the fewest steps, plans in rounds, two hands."""

import unittest
from itertools import combinations, product

from pagestrue.plans import depth_plan, is_plan
from pagestrue.refusals import BadHandCount, BadLots, BadPlainWeb, BadScript, BadWanted
from pagestrue.scripts import fewest_steps, is_script, least_script, needed_rows, script_steps
from pagestrue.twohands import is_lots, lots_bound, lots_certificate, two_plan, two_rounds
from tests.making import Strange, maker

WEB = [("made", "f", ()), ("made", "g", (0,)), ("made", "h", (0, 0)), ("made", "k", (1, 2)), ("made", "f2", ())]
NO_PLAIN = [None, "made", {}, [("made", "f", ()), ("given", 0)], [("made", "f", (0,))],
            [("made", "f", ()), ("made", "f", ())], [("made", "f", ()), ("asked", "t", ())], [Strange()]]


def a_made_web(seed, rows=6, calm=None):
    """A web of made rows, sparse or dense, with rows that need one row twice."""
    rng = maker(seed)
    told = []
    share = rng.choice([0.1, 0.25, 0.5]) if calm is None else calm
    while len(told) < rows:
        needs = [at for at in range(len(told)) if rng.random() < share]
        if needs and rng.random() < 0.2:
            needs.append(rng.choice(needs))
        row = ("made", rng.choice("fgh") + str(rng.randrange(9)), tuple(needs))
        if row not in told:
            told.append(row)
    return told


def some_wanted(seed, web, most=3):
    """A list of rows, in whatever order, one perhaps twice."""
    rng = maker(seed)
    if seed % 5 == 0:
        return list(range(len(web)))
    return [rng.randrange(len(web)) for _ in range(rng.randint(0, most))] if web else []


def hung_on(web, at):
    """All rows on which a row hangs, without itself."""
    found = set(web[at][2])
    for need in web[at][2]:
        found |= hung_on(web, need)
    return found


def needed(web, wanted):
    return sorted(set(wanted).union(*[hung_on(web, at) for at in wanted]))


def plain_script(web, wanted, cell, names):
    """Whether the cell leaves the wanted rows under the names: what stands is told as terms."""
    def term(at):
        return (web[at][1], tuple(term(need) for need in web[at][2]))
    values = {}
    for statement in cell:
        read = statement[3] if statement[0] == "set" else statement[2:]
        if any(name not in values for name in read):
            return False
        made = tuple(values[name] for name in read)
        values[statement[1]] = (statement[2], made) if statement[0] == "set" else made[0]
    return len(names) == len(wanted) and all(values.get(name) == term(at) for name, at in zip(names, wanted))


class ScriptTest(unittest.TestCase):
    def test_needed_rows(self):
        for seed in range(200):
            web = a_made_web(seed, rows=seed % 9)
            wanted = some_wanted(seed, web)
            self.assertEqual(needed_rows(web, wanted), needed(web, wanted))
            self.assertEqual(fewest_steps(web, wanted), len(needed(web, wanted)))
        self.assertEqual(needed_rows(WEB, []), [])
        self.assertEqual(needed_rows(WEB, [2, 4, 2]), [0, 2, 4])

    def test_least_script(self):
        for seed in range(200):
            web = a_made_web(seed, rows=seed % 12)
            wanted = some_wanted(seed, web, 5)
            script = least_script(web, wanted)
            self.assertIs(type(script), tuple)
            self.assertTrue(plain_script(web, wanted, *script))
            self.assertIs(is_script(web, wanted, script), True)
            self.assertEqual(script_steps(web, wanted, script), fewest_steps(web, wanted))

    def all_cells(self, web, sets, names, copies):
        """All cells of so many sets, and some copies, over these names and the web's steps."""
        steps = sorted({row[1] for row in web})
        widest = max([len(row[2]) for row in web])
        settings = [("set", x, f, list(read)) for x in names for f in steps
                    for many in range(widest + 1) for read in product(names, repeat=many)]
        lines = settings + [("copy", x, y) for x in names for y in names if x != y] * copies
        for cell in product(lines, repeat=sets + copies):
            if sum(statement[0] == "set" for statement in cell) == sets:
                yield list(cell)

    def test_all_scripts_of_few_sets(self):
        """No cell with fewer sets leaves what is wanted; is_script by the test's own reading."""
        webs = [([("made", "f", ()), ("made", "g", (0,))], [[1], [0, 1], [0], []]),
                ([("made", "f", ()), ("made", "f", (0,)), ("made", "f", (1,))], [[2], [1], [0, 2], [2, 1]]),
                ([("made", "f", ()), ("made", "g", ()), ("made", "f", (0, 1))], [[0, 1], [2], [1, 1]])]
        met = 0
        for web, lots in webs:
            for wanted in lots:
                least = fewest_steps(web, wanted)
                for sets, copies in ((0, 0), (1, 0), (1, 1), (2, 0), (2, 1)):
                    if sets == 2 and len(web) == 3 and copies:
                        continue
                    for cell in self.all_cells(web, sets, "ab", copies):
                        for names in product("ab", repeat=len(wanted)):
                            right = plain_script(web, wanted, cell, names)
                            if right or maker(met).random() < 0.002:
                                self.assertIs(is_script(web, wanted, (cell, list(names))), right)
                            if right:
                                self.assertGreaterEqual(sets, least)
                                self.assertEqual(script_steps(web, wanted, [cell, names]), sets)
                                met += 1
        self.assertGreater(met, 200)

    def test_random_scripts(self):
        met = {True: 0, False: 0}
        for seed in range(4000):
            rng = maker(seed)
            web = a_made_web(seed % 40, rows=4)
            wanted = some_wanted(seed % 40, web, 2)
            cell, names = least_script(web, wanted)
            for _ in range(rng.randint(0, 2)):
                at = rng.randint(0, len(cell))
                read = [rng.choice(["n0", "n1", "n2"]) for _ in range(rng.randint(0, 2))]
                line = rng.choice([("copy", "x", rng.choice(["n0", "n1", "x"])), ("set", "x", "f1", read),
                                   ("copy", "n0", "x"), ("set", "n1", "g3", read)])
                cell = rng.choice([cell[:at] + [line] + cell[at:], cell[:at] + cell[at + 1:]])
            names = [rng.choice([name, name, name, "x"]) for name in names]
            right = plain_script(web, wanted, cell, names)
            self.assertIs(is_script(web, wanted, (cell, names)), right)
            met[right] += 1
        self.assertGreater(min(met.values()), 500)

    def test_edges(self):
        script = ([("set", "a", "f", [])], ["a", "a"])
        self.assertIs(is_script(WEB, [0, 0], script), True)
        self.assertIs(is_script(WEB, [], ([], [])), True)
        self.assertIs(is_script([], [], ([], ())), True)
        self.assertIs(is_script(WEB, [], ([], ["a"])), False)
        self.assertIs(is_script(WEB, [0], ([("set", "a", "f", []), ("set", "a", "g", ["a"])], ["a"])), False)
        self.assertIs(is_script(WEB, [1], ([("set", "a", "f", []), ("set", "a", "g", ["a"])], ["a"])), True)
        self.assertIs(is_script(WEB, [1], ([("set", "a", "f", []), ("set", "b", "new", ["a"]),
                                            ("copy", "c", "a"), ("set", "a", "g", ["c"])], ["a"])), True)
        for cell in ([("set", "a", "f", []), ("show", "a")], [("set", "a", "f", []), ("if", "t", [], [], [])],
                     [("copy", "b", "a"), ("set", "a", "f", [])], [("set", "a", "f")], None, "set"):
            self.assertIs(is_script(WEB, [0], (cell, ["a"])), False)
        for thing in (None, [], ([], ["a"], 0), ([("set", "a", "f", [])], "a"), ([("set", "a", "f", [])], [1]),
                      ([("set", "a", "f", [])], ["A"]), ([("set", "a", "f", [])], [Strange()]), Strange()):
            self.assertIs(is_script(WEB, [0], thing), False)
            with self.assertRaises(BadScript) as caught:
                script_steps(WEB, [0], thing)
            self.assertIs(caught.exception.script, thing)

    def test_wrong_webs_and_wanted(self):
        calls = [(needed_rows, ()), (is_script, (None,)), (script_steps, (None,)), (least_script, ()),
                 (fewest_steps, ()), (is_plan, (0, None)), (depth_plan, ()), (two_plan, ()), (two_rounds, ()),
                 (is_lots, (None,)), (lots_bound, (None,)), (lots_certificate, ())]
        for function, more in calls:
            for web in NO_PLAIN:
                with self.assertRaises(BadPlainWeb) as caught:
                    function(web, [9], *more)
                self.assertIs(caught.exception.web, web)
            for wanted, index in ((None, 0), ("0", 0), ({}, 0), ([0, 5], 1), ([True], 0), ([0, 1, -1], 2), ([1.0], 0)):
                with self.assertRaises(BadWanted) as caught:
                    function(WEB, wanted, *more)
                self.assertEqual(caught.exception.index, index)


def plain_plan(web, wanted, hands, rounds):
    """Whether a list of lists of numbers is a plan, word by word."""
    flat = [at for one in rounds for at in one]
    when = {at: number for number, one in enumerate(rounds) for at in one}
    return (sorted(flat) == needed(web, wanted) and all(0 < len(one) <= hands for one in rounds)
            and all(list(one) == sorted(one) for one in rounds)
            and all(need in when and when[need] < when[at] for at in flat for need in web[at][2]))


def fewest_rounds(web, rows, hands):
    """The length of the shortest plan, by a search through all lots of rows that can be done."""
    layer, many = {frozenset()}, 0
    while frozenset(rows) not in layer:
        further = set()
        for done in layer:
            ready = [at for at in rows if at not in done and set(web[at][2]) <= done]
            for lot in combinations(ready, min(hands, len(ready))):
                further.add(done | set(lot))
        layer, many = further, many + 1
    return many


def all_rounds(rows, longest):
    """All lists of at most so many lots of the rows, each lot ascending, not empty."""
    lots = [list(lot) for many in range(1, len(rows) + 1) for lot in combinations(rows, many)]
    for many in range(longest + 1):
        yield from map(list, product(lots, repeat=many))


class PlanTest(unittest.TestCase):
    def test_all_plans_of_small_webs(self):
        met = 0
        for seed in range(40):
            web = a_made_web(seed, rows=3, calm=0.4)
            wanted = some_wanted(seed, web)
            for rounds in all_rounds(range(3), 3):
                for hands in (1, 2, 3):
                    right = plain_plan(web, wanted, hands, rounds)
                    self.assertIs(is_plan(web, wanted, hands, rounds), right)
                    met += right
        self.assertGreater(met, 100)

    def test_depth_plan(self):
        for seed in range(200):
            web = a_made_web(seed, rows=seed % 9)
            wanted = some_wanted(seed, web)
            told = depth_plan(web, wanted)
            many = len(needed(web, wanted))
            self.assertTrue(plain_plan(web, wanted, many + 1, told))
            self.assertIs(is_plan(web, wanted, many + 1, told), True)
            depths = {}
            for at in needed(web, wanted):
                depths[at] = 1 + max([depths[need] for need in web[at][2]], default=0)
            self.assertEqual([[at for at in depths if depths[at] == depth + 1] for depth in range(len(told))], told)
            for hands in (1, 2, 3, 9):
                self.assertGreaterEqual(fewest_rounds(web, needed(web, wanted), hands), len(told))
            self.assertEqual(fewest_rounds(web, needed(web, wanted), 9), len(told))

    def test_edges(self):
        self.assertEqual(depth_plan(WEB, []), [])
        self.assertIs(is_plan(WEB, [], 1, []), True)
        self.assertIs(is_plan(WEB, [], 1, [[]]), False)
        plan = [[0, 4], [1, 2], [3]]
        for hands, right in ((1, False), (2, True), (100, True), (10 ** 4000, True)):
            self.assertIs(is_plan(WEB, [4, 3, 3], hands, plan), right)
        for thing in ([[4, 0], [1, 2], [3]], [[0], [1, 2], [3]], [[0, 4], [1, 2, 3]], [[0, 4], [1, 2], [3], [3]],
                      [[0, 0, 4], [1, 2], [3]], [[0, 4], [1], [], [2], [3]], [[False, 4], [1, 2], [3]],
                      [[0, 4], [1, 2], ["3"]], [[0, 4], [1, 2], 3], "0", None, [[1, 2], [0, 4], [3]],
                      [[0, 4], [1, 2], [3], [5]], [Strange()], [[0, Strange()]]):
            self.assertIs(is_plan(WEB, [4, 3], 9, thing), False)
        for hands in (None, 0, -1, True, "1", 1.0, [1], Strange()):
            with self.assertRaises(BadHandCount) as caught:
                is_plan(WEB, [3], hands, plan)
            self.assertIs(caught.exception.hands, hands)


class TwoHandsTest(unittest.TestCase):
    def test_fewest_rounds(self):
        wide = 0
        for seed in range(700):
            web = a_made_web(seed, rows=seed % 11)
            wanted = some_wanted(seed, web, 4)
            rows = needed(web, wanted)
            fewest = fewest_rounds(web, rows, 2)
            plan = two_plan(web, wanted)
            self.assertTrue(plain_plan(web, wanted, 2, plan))
            self.assertEqual((len(plan), two_rounds(web, wanted)), (fewest, fewest))
            lots = lots_certificate(web, wanted)
            self.assertTrue(self.plain_lots(web, wanted, lots))
            self.assertIs(is_lots(web, wanted, lots), True)
            self.assertEqual(lots_bound(web, wanted, lots), fewest)
            wide += len(lots) < len(rows) > fewest
        self.assertGreater(wide, 200)

    def test_greater_webs(self):
        for seed in range(60):
            web = a_made_web(seed, rows=30, calm=(0.03, 0.06, 0.1, 0.2)[seed % 4])
            wanted = list(range(30))
            plan, lots = two_plan(web, wanted), lots_certificate(web, wanted)
            self.assertTrue(plain_plan(web, wanted, 2, plan))
            self.assertTrue(self.plain_lots(web, wanted, lots))
            self.assertEqual(lots_bound(web, wanted, lots), len(plan))

    def plain_lots(self, web, wanted, lots):
        rows = needed(web, wanted)
        return (all(lot and list(lot) == sorted(set(lot)) and set(lot) <= set(rows) for lot in lots)
                and all(one in hung_on(web, at) for number in range(1, len(lots))
                        for one in lots[number - 1] for at in lots[number]))

    def test_all_row_lots(self):
        """is_lots by the test's own reading; no bound is above the fewest rounds."""
        met = 0
        for seed in range(60):
            web = a_made_web(seed, rows=4, calm=(0.3, 0.5)[seed % 2])
            wanted = some_wanted(seed, web)
            fewest = fewest_rounds(web, needed(web, wanted), 2)
            best = 0
            for lots in all_rounds(range(4), 2):
                right = self.plain_lots(web, wanted, lots)
                self.assertIs(is_lots(web, wanted, lots), right)
                if right:
                    met += 1
                    bound = sum(-(-len(lot) // 2) for lot in lots)
                    self.assertEqual(lots_bound(web, wanted, lots), bound)
                    best = max(best, bound)
            self.assertLessEqual(best, fewest)
        self.assertGreater(met, 300)

    def test_edges(self):
        self.assertEqual((two_plan(WEB, []), two_rounds(WEB, []), lots_certificate(WEB, [])), ([], 0, []))
        self.assertEqual(lots_bound(WEB, [], []), 0)
        self.assertIs(is_lots(WEB, [3], [[0], [1, 2], [3]]), True)
        self.assertEqual(lots_bound(WEB, [3], ((0,), (1, 2), (3,))), 3)
        self.assertEqual(lots_bound(WEB, [3, 4], [[0, 1, 2, 3, 4]]), 3)
        for thing in ([[0], []], [[4]], [[1], [2]], [[0, 0]], [[1, 0]], [[True]], [["0"]], [0], "0", None, [[3], [0]],
                      [[0], [0]], [[5]], [[-1]], [Strange()], {}, [[0], [1, 3]][::-1]):
            self.assertIs(is_lots(WEB, [3], thing), False)
            with self.assertRaises(BadLots) as caught:
                lots_bound(WEB, [3], thing)
            self.assertIs(caught.exception.lots, thing)


if __name__ == "__main__":
    unittest.main()
