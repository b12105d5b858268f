"""The names of the interface that have landed, with their arguments in their places."""

import importlib
import inspect
import unittest

INTERFACE = {
    "lines": {"is_line": "sections marks keys thing", "depth_of": "line"},
    "circuits": {"is_sections": "thing", "made_circuit": "thing", "counted": "circuit"},
    "stands": {"made_stand": "circuit thing", "is_on": "circuit stand line"},
    "answering": {
        "answer": "circuit stand", "is_settled": "circuit stand", "answers": "circuit stand",
        "settled": "circuit stand",
    },
    "events": {"can_go": "circuit stand", "events_of": "circuit stand", "after": "circuit stand event"},
    "runs": {"run": "circuit stand events"},
    "rounds": {
        "made_round": "sections thing", "between": "sections steps i", "call_of": "sections steps i",
        "due_end": "sections steps i p",
    },
    "plain": {"plain_circuit": "sections steps", "plain_rest": "sections steps"},
    "clashes": {"is_clash": "sections steps thing", "clashes": "sections steps", "bars": "sections steps"},
    "rows": {
        "is_row": "circuit steps thing", "is_right": "circuit steps thing", "next_row": "circuit steps row event",
    },
    "goingpapers": {"goes_by": "circuit steps stand paper", "wrong_by": "circuit steps stand paper"},
    "walks": {"walk": "circuit steps stand"},
    "cuts": {"is_cut": "steps thing", "group_of": "steps cut i", "greedy_cut": "steps b", "fewest_cut": "steps"},
    "groups": {"group_circuit": "sections steps cut", "group_rest": "sections steps cut", "chain_cut": "steps"},
    "needs": {
        "are_apart": "sections steps i j", "is_need": "sections steps thing", "need_of": "sections steps",
        "marks_needed": "sections steps",
    },
    "alikepapers": {
        "look_alike": "one stand other beside", "alike_by": "one stand other beside paper",
        "apart_by": "one stand other beside paper",
    },
    "pairs": {"compare": "one stand other beside"},
    "back": {"read_back": "circuit stand"},
    "faults": {"faults_of": "circuit", "hurt": "circuit fault"},
    "finding": {"fault_by": "circuit stand seen paper", "faults_for": "circuit stand seen"},
}


class InterfaceTest(unittest.TestCase):
    def test_each_name_has_its_arguments(self):
        for module, functions in INTERFACE.items():
            found = importlib.import_module("pistonrounds." + module)
            for name, arguments in functions.items():
                told = list(inspect.signature(getattr(found, name)).parameters)
                self.assertEqual(told, arguments.split(), (module, name))

    def test_each_name_is_defined_where_it_is_listed(self):
        for module, functions in INTERFACE.items():
            found = importlib.import_module("pistonrounds." + module)
            for name in functions:
                self.assertEqual(getattr(found, name).__module__, "pistonrounds." + module)

    def test_what_an_int_is_stands_in_ints(self):
        importlib.import_module("pistonrounds.ints")


if __name__ == "__main__":
    unittest.main()
