"""The whole program: every name of the interface, with the parameters that its point shows."""

import importlib
import inspect
import unittest

from pagestrue.alikeparts import are_alike
from pagestrue.boxpages import BoxPage
from pagestrue.casetexts import read_cases
from pagestrue.casetrees import case_tree, is_case_tree
from pagestrue.desks import Desk
from pagestrue.errors import PageError
from pagestrue.leastkeeping import least_keeping
from pagestrue.keepflows import flow_sum
from pagestrue.keepplans import plan_price
from pagestrue.pages import Page
from pagestrue.webs import is_web
from pagestrue.widepages import WidePage
from tests.interface import METHODS, SIGNATURES, split_signatures
from tests.keepings import a_keeping
from tests.making import a_web, parts_of

class InterfaceTest(unittest.TestCase):
    def check_parameters(self, function, names, own):
        told = list(inspect.signature(function).parameters.values())
        self.assertEqual([one.name for one in told][own:], names, function)
        for one in told:
            self.assertIs(one.kind, inspect.Parameter.POSITIONAL_OR_KEYWORD)
            self.assertIs(one.default, inspect.Parameter.empty)

    def test_each_name_in_its_file(self):
        many = 0
        for line in SIGNATURES.strip().split("\n"):
            module, _, rest = line.partition(": ")
            here = importlib.import_module("pagestrue." + module)
            for name, parameters in split_signatures(rest):
                thing = getattr(here, name)
                self.assertEqual(thing.__module__, here.__name__)
                many += 1
                if inspect.isclass(thing):
                    if name != "PageError":
                        self.check_parameters(vars(thing)["__init__"], parameters, 1)
                    if module in ("errors", "refusals"):
                        base = ValueError if name == "PageError" else PageError
                        self.assertEqual(thing.__bases__, (base,))
                else:
                    self.check_parameters(thing, parameters, 0)
        self.assertEqual(many, 270)

    def test_each_method_in_its_class(self):
        for kind, text in METHODS.items():
            for name, parameters in split_signatures(text):
                self.check_parameters(vars(kind)[name], parameters, 1)

    def test_objects_are_unlike_all_else(self):
        things = [Page([]), WidePage([]), BoxPage([]), Desk(), [], (), {}, None, 0]
        for at, one in enumerate(things):
            for place, other in enumerate(things):
                self.assertEqual(one == other, at == place)
                self.assertEqual(one != other, at != place)


class AgreeTest(unittest.TestCase):
    """Functions of several sections, held against each other. (Others stand beside the tests of each section.)"""

    def test_alike_by_trees_and_their_texts(self):
        for seed in range(60):
            web = a_web(seed, rows=9)
            parts = parts_of(web)
            for one, other in zip(parts, parts[1:]):
                tree = case_tree(web, one, other)
                self.assertEqual(tree is not None, are_alike(web, one, other))
                if tree is not None:
                    self.assertIs(is_case_tree(web, one, other, tree), True)
                    with self.assertRaises(PageError):
                        read_cases(web, one, other, "")

    def test_plans_and_flows(self):
        for seed in range(60):
            keeping = a_keeping(seed)
            self.assertIs(is_web(keeping[0]), True)
            price, plan, flow = least_keeping(*keeping)
            self.assertEqual((plan_price(*keeping, plan), flow_sum(flow)), (price, price))


if __name__ == "__main__":
    unittest.main()
