"""[6.4]: case trees."""

import unittest

from pagestrue.alikeparts import are_alike, parting_meaning
from pagestrue.casetrees import case_tree, is_case_tree
from tests.making import a_web, as_lists, maker, parts_of


def plain_known(web, truths):
    """What is known, word by word: of each known row its value or truth, until nothing comes."""
    known = {}
    while True:
        before = len(known)
        for at, row in enumerate(web):
            if at in known:
                continue
            if row[0] == "given":
                known[at] = row
            elif row[0] == "either":
                if row[1] in known and row[2 if known[row[1]] else 3] in known:
                    known[at] = known[row[2 if known[row[1]] else 3]]
            elif row[0] == "made":
                if all(need in known for need in row[2]):
                    known[at] = (row[1], tuple(known[need] for need in row[2]))
            elif at in truths:
                known[at] = truths[at]
            elif all(need in known for need in row[2]):
                for other in truths:
                    if web[other][1] == row[1] and all(need in known for need in web[other][2]):
                        if [known[need] for need in web[other][2]] == [known[need] for need in row[2]]:
                            known[at] = truths[other]
        if len(known) == before:
            return known


def plain_takes(web, one, other, tree, truths):
    """Whether it is a case tree at a place with these rows set."""
    known = plain_known(web, truths)
    if tree[0] == "like":
        return len(tree) == 1 and one in known and other in known and known[one] == known[other]
    row = tree[1]
    if row in known or not all(need in known for need in web[row][2]):
        return False
    return all(plain_takes(web, one, other, tree[2 + truth], {**truths, row: bool(truth)})
               for truth in (0, 1))


def some_tree(web, rng, deep):
    """Some tree of asked rows."""
    asked = [at for at, row in enumerate(web) if row[0] == "asked"]
    if not asked or deep == 0 or rng.random() < 0.2:
        return ("like",)
    return ("asked", rng.choice(asked), some_tree(web, rng, deep - 1), some_tree(web, rng, deep - 1))


class CaseTest(unittest.TestCase):
    WEB = [("given", 0), ("given", 1), ("asked", "t", (0,)), ("either", 2, 0, 1), ("asked", "t", (3,)),
           ("either", 4, 3, 1), ("asked", "s", ()), ("either", 6, 3, 5)]

    def test_trees(self):
        like = ("like",)
        inner = ("asked", 4, like, like)
        for one, other, tree, is_one in [
                (0, 0, like, True), (0, 1, like, False), (3, 5, like, False), (3, 3, like, False),
                (3, 3, ("asked", 2, like, like), True), (3, 5, ("asked", 2, like, like), False),
                (3, 5, ("asked", 2, inner, like), True), (3, 5, ("asked", 2, like, inner), False),
                (3, 5, ("asked", 2, inner, inner), False), (3, 5, ("asked", 4, like, like), False),
                (3, 5, ("asked", 2, ("asked", 2, like, like), like), False),
                (3, 7, ("asked", 6, ("asked", 2, inner, like), ("asked", 2, like, like)), True),
                (3, 5, ("asked", 2, ("asked", 6, inner, inner), like), True),
                (0, 0, ("asked", 2, like, like), True), (0, 0, ("asked", 0, like, like), False)]:
            self.assertIs(is_case_tree(self.WEB, one, other, tree), is_one, tree)
            self.assertIs(is_case_tree(self.WEB, one, other, as_lists(tree)), is_one)

    def test_no_trees(self):
        like = ("like",)
        for thing in [None, "like", (), ("like", 1), ("likes",), ("asked", 2, like), ("asked", 2),
                      ("asked", True, like, like), ("asked", 9, like, like), ("asked", -6, like, like),
                      ("asked", "2", like, like), ("asked", 2, like, None), ("asked", 2, like, "like"),
                      ("asked", 2, like, like, like), (["like"],), ("ask", 2, like, like), {"like": 0}]:
            self.assertIs(is_case_tree(self.WEB, 3, 3, thing), False)

    def test_just_one(self):
        found = 0
        for seed in range(120):
            web = a_web(seed, rows=12, most_asked=4, steps=1, tests=1 + seed % 2)
            for one in parts_of(web):
                for other in parts_of(web):
                    tree = case_tree(web, one, other)
                    self.assertEqual(tree is None, parting_meaning(web, one, other) is not None)
                    if tree is not None:
                        found += one != other
                        self.assertIs(is_case_tree(web, one, other, tree), True)
                        self.assertTrue(plain_takes(web, one, other, tree, {}))
        self.assertGreater(found, 50)

    def test_word_by_word(self):
        told = [0, 0]
        for seed in range(3000):
            rng = maker(seed)
            web = a_web(seed % 200, rows=9, most_asked=3, steps=1, tests=1)
            parts = parts_of(web)
            one, other = rng.choice(parts), rng.choice(parts)
            lots = [part for part in parts if are_alike(web, one, part)]
            other = rng.choice(lots) if seed % 3 else other
            tree = some_tree(web, rng, 4)
            is_tree = is_case_tree(web, one, other, tree)
            told[is_tree] += 1
            self.assertIs(is_tree, plain_takes(web, one, other, tree, {}))
        self.assertGreater(min(told), 100)


if __name__ == "__main__":
    unittest.main()
