"""[5.1] to [5.3]: webs."""

import unittest

from pagestrue.errors import BadRow
from pagestrue.webs import is_web, joined_webs, put_row, same_part, web_fault
from tests.making import a_web, maker, parts_of
from tests.plain import over_worlds, term_of

WEB = [("made", "f", ()), ("asked", "t", (0,)), ("given", 0), ("either", 1, 0, 2)]


class FaultTest(unittest.TestCase):
    def test_webs(self):
        for web in [[], (), WEB, [["given", 10 ** 50]], [("made", "made", [])], a_web(1, rows=40),
                    [("given", 0), ("made", "f", [0, 0, 0])], [("asked", "f", ()), ("made", "f", ())]]:
            self.assertIsNone(web_fault(web))
            self.assertIs(is_web(web), True)

    def test_no_lists(self):
        for thing in [None, "", "made", {}, 0, {0: ("given", 0)}]:
            self.assertEqual(web_fault(thing), (0, "form"))
            self.assertIs(is_web(thing), False)

    def test_rows(self):
        for row, why in [
                (None, "form"), ("given", "form"), ([], "form"), (("given",), "form"),
                (("given", -1), "form"), (("given", True), "form"), (("given", 0, 0), "form"),
                (("given", "0"), "form"), (("given", 1.0), "form"), (("made", "f"), "form"),
                (("made", "f", 0), "form"), (("done", "f", ()), "form"),
                (("neither", 1, 0, 2), "form"), (("taken", 5), "form"), (("made", "F", ()), "form"),
                (("made", 0, ()), "form"),
                (("made", "f", (0, True)), "form"), (("made", "f", (9, -1)), "form"),
                (("made", "f", (), ()), "form"), (("asked", "", ()), "form"),
                (("asked", "t", "0"), "form"), (("asked", "t", {}), "form"), (("either", 1, 0), "form"),
                (("either", 1, 0, "2"), "form"), (("either", True, 0, 2), "form"),
                (("either", 1, 0, 2, 3), "form"), (("Made", "f", ()), "form"), ((0, "f", ()), "form"),
                (("given", 5, "form"), "form"), ((["given"], 5), "form"),
                (("made", "f", (4,)), "ahead"), (("made", "f", (1, 4)), "ahead"),
                (("asked", "t", (0, 7)), "ahead"), (("either", 4, 0, 2), "ahead"),
                (("either", 0, 4, 4), "ahead"), (("either", 1, 0, 10 ** 30), "ahead"),
                (("made", "f", (1,)), "kind"), (("asked", "t", (0, 1)), "kind"),
                (("either", 0, 2, 3), "kind"), (("either", 1, 1, 0), "kind"),
                (("either", 1, 0, 1), "kind"), (("either", 2, 0, 0), "kind"),
                (("either", 1, 2, 2), "alike"), (("made", "f", []), "twice"), (["given", 0], "twice"),
                (("either", 1, 0, 2), "twice"), (("asked", "t", [0]), "twice")]:
            for tail in ([], [None]):
                self.assertEqual(web_fault(WEB + [row] + tail), (4, why), row)
                self.assertIs(is_web(WEB + [row] + tail), False)
        self.assertEqual(web_fault([WEB[1]]), (0, "ahead"))
        self.assertEqual(web_fault([("either", 0, 0, 0)]), (0, "ahead"))

    def test_beginnings_and_losses(self):
        for seed in range(60):
            web = a_web(seed, rows=12)
            for at in range(len(web)):
                self.assertTrue(is_web(web[:at]))
                self.assertEqual(web_fault(web + [web[at]]), (len(web), "twice"))
                told = web_fault(web[:at] + web[at + 1:])
                self.assertTrue(told is None or at <= told[0] < len(web) - 1)


class PutTest(unittest.TestCase):
    def test_put_row(self):
        self.assertEqual(put_row([], ["given", 3]), ([("given", 3)], 0))
        self.assertEqual(put_row(WEB, ["made", "g", [0, 2]]), (WEB + [("made", "g", (0, 2))], 4))
        for at, row in enumerate(WEB):
            self.assertEqual(put_row(WEB, row), (WEB, at))

    def test_bad_rows(self):
        for row in [("made", "f", (1,)), ("either", 1, 0, 0), ("given", None), 3, ("asked", "t", [4])]:
            with self.assertRaises(BadRow) as caught:
                put_row(WEB, row)
            self.assertIs(caught.exception.row, row)


class JoinTest(unittest.TestCase):
    def test_to_itself_and_to_nothing(self):
        for seed in range(40):
            web = a_web(seed)
            self.assertEqual(joined_webs(web, web), (web, list(range(len(web)))))
            self.assertEqual(joined_webs([], web), (web, list(range(len(web)))))
            self.assertEqual(joined_webs(web, []), (web, []))

    def test_joined(self):
        for seed in range(150):
            web, other = a_web(seed, steps=1, tests=1), a_web(seed + 900, steps=1, tests=1)
            told, places = joined_webs(web, other)
            self.assertTrue(is_web(told))
            self.assertEqual(told[:len(web)], web)
            self.assertEqual(len(set(places)), len(other))
            self.assertEqual(sorted(set(places) | set(range(len(web)))), list(range(len(told))))
            mine, its = maker(seed).choice(parts_of(web)), maker(seed).choice(parts_of(other))
            self.assertEqual(same_part(web, mine, other, its), places[its] == mine)
            self.assertTrue(same_part(told, places[its], other, its))

            def act(ask):
                for at, row in enumerate(other):
                    self.assertEqual(term_of(other, at, ask), term_of(told, places[at], ask))

            over_worlds(act)


if __name__ == "__main__":
    unittest.main()
