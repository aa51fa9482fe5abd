"""The interface: each name in its file, defined there, with the arguments and methods that the document lists."""

import importlib
import inspect
import unittest

KEEPS = {
    "Keep": "(shelves, blocks, harms=(), *, most=1)", "Plan": "(sums, order, *, choice='first', mends=True, limit=None)",
    "Keep.full": "(shelves, blocks, *, most=1)", "Plan.but": "(self, part, value)", "Plan.turned": "(self)",
}
ASKED, WISHED, COSTED = "(keep, plan)", "(keep, plan, *, wish='true')", "(keep, plan, prices, *, wish='true')"
BOTH, BLAMED, OF_STATE = "(keep, one, other)", "(keep, plan, shelf, kind)", "(keep, plan, state)"
SEEN, LOOKED, TOLD = "(keep, plan, block)", "(keep, plan, state, block)", "(keep, plan, history)"
INTERFACE = {
    "keeps": KEEPS,
    "states": {"first_state": ASKED, "is_state": "(keep, plan, thing)", "right_shelves": LOOKED},
    "deeds": {"deeds": OF_STATE, "after": "(keep, plan, state, deed)", "trace": TOLD, "harms_in": TOLD, "all_states": ASKED},
    "looks": {"passes": LOOKED, "look": LOOKED},
    "rounds": {"found_by_round": OF_STATE},
    "judging": {"fulfils": "(keep, plan, state, *, wish='true')", "judge": WISHED, "is_safe": WISHED, "soonest": WISHED,
                "fewest": WISHED, "Safe": "(states)", "Harmed": "(history)", "Safe.shows": WISHED, "Harmed.shows": WISHED},
    "sights": {"shapes": LOOKED, "sight": SEEN, "blind_spots": SEEN, "Sight": "(states, seen, unseen)", "Sight.shows": SEEN},
    "prices": {"cost": "(plan, prices)", "offers": "(keep, plan, prices)", "cheapest": COSTED, "least_cost": COSTED,
               "Cheapest": "(plan, states, histories)", "NoPlan": "(histories)", "Cheapest.shows": COSTED,
               "NoPlan.shows": COSTED},
    "alike": {"tells": LOOKED, "compare": BOTH, "tell_the_same": BOTH, "parted_after": BOTH, "Alike": "(pairs)",
              "Parted": "(history)", "Alike.shows": BOTH, "Parted.shows": BOTH},
    "dangers": {"dangers": WISHED, "least_dangers": WISHED, "greatest_safe": WISHED, "Dangers": "(bad, good)",
                "Dangers.shows": WISHED},
    "desks": {"Desk": ASKED, "Desk.state": None, "Desk.journal": None, "Desk.do": "(self, *deed)",
              "Desk.look": "(self, block)", "Desk.writes": "(self)", "Desk.undo": "(self)", "Desk.branch": "(self)",
              "Desk.trial": "(self)", "Desk.attempt": "(self, work)", "Desk.tried": "(self, history)"},
    "texts": {"plan_text": ASKED, "history_text": TOLD, "read_plan": "(text)", "read_history": "(keep, plan, text)"},
    "outing": {"out_in": OF_STATE, "outs": ASKED, "all_outs": ASKED, "Outs": "(histories, states)", "Outs.shows": ASKED},
    "blaming": {"blame": BLAMED, "is_wronged": BLAMED, "fewest_harms": BLAMED, "wronged_shelves": "(keep, plan, kind)",
                "Wronged": "(history)", "Fair": "(states)", "Wronged.shows": BLAMED, "Fair.shows": BLAMED},
    "costing": {"price_of": "(keep, plan, prices, history)", "costing": COSTED, "least_price": COSTED,
                "Costly": "(price, history, floors)", "Costly.shows": COSTED},
}


def written(thing):
    return str(inspect.signature(thing))


class InterfaceTest(unittest.TestCase):
    def test_each_name_is_there(self):
        for file, names in INTERFACE.items():
            module = importlib.import_module(f"quietharm.{file}")
            for name, want in names.items():
                with self.subTest(file=file, name=name):
                    owner, _, method = name.partition(".")
                    thing = getattr(module, owner)
                    self.assertEqual(thing.__module__, module.__name__)
                    if method:
                        self.assert_method(thing, method, want)
                    else:
                        self.assertEqual(written(thing), want)

    def assert_method(self, owner, method, want):
        self.assertIn(method, vars(owner))
        if want is None:
            self.assertIsInstance(vars(owner)[method], property)
        else:
            want = want if want.startswith("(self") or method == "full" else "(self, " + want[1:]
            self.assertEqual(written(getattr(owner, method)), want)

    def test_classes_say_what_is_equal_themselves(self):
        for file, names in INTERFACE.items():
            module = importlib.import_module(f"quietharm.{file}")
            for name in names:
                if name[0].isupper() and "." not in name and name != "Desk":
                    self.assertIn("__eq__", vars(getattr(module, name)))


if __name__ == "__main__":
    unittest.main()
