"""The names of the interface that have landed, with their arguments in their places."""

import importlib
import inspect
import unittest

INTERFACE = {
    "lines": {"is_line": "sections marks keys thing", "depth_of": "line"},
    "circuits": {"is_sections": "thing", "made_circuit": "thing", "counted": "circuit"},
    "stands": {"made_stand": "circuit thing", "is_on": "circuit stand line"},
    "answering": {
        "answer": "circuit stand", "is_settled": "circuit stand", "answers": "circuit stand",
        "settled": "circuit stand",
    },
    "events": {"can_go": "circuit stand", "events_of": "circuit stand", "after": "circuit stand event"},
    "runs": {"run": "circuit stand events"},
    "rounds": {
        "made_round": "sections thing", "between": "sections steps i", "call_of": "sections steps i",
        "due_end": "sections steps i p",
    },
    "plain": {"plain_circuit": "sections steps", "plain_rest": "sections steps"},
    "clashes": {"is_clash": "sections steps thing", "clashes": "sections steps", "bars": "sections steps"},
    "rows": {
        "is_row": "circuit steps thing", "is_right": "circuit steps thing", "next_row": "circuit steps row event",
    },
    "goingpapers": {"goes_by": "circuit steps stand paper", "wrong_by": "circuit steps stand paper"},
    "walks": {"walk": "circuit steps stand"},
    "cuts": {"is_cut": "steps thing", "group_of": "steps cut i", "greedy_cut": "steps b", "fewest_cut": "steps"},
    "groups": {"group_circuit": "sections steps cut", "group_rest": "sections steps cut", "chain_cut": "steps"},
    "needs": {
        "are_apart": "sections steps i j", "is_need": "sections steps thing", "need_of": "sections steps",
        "marks_needed": "sections steps",
    },
    "alikepapers": {
        "look_alike": "one stand other beside", "alike_by": "one stand other beside paper",
        "apart_by": "one stand other beside paper",
    },
    "pairs": {"compare": "one stand other beside"},
    "back": {"read_back": "circuit stand"},
    "faults": {"faults_of": "circuit", "hurt": "circuit fault"},
    "finding": {"fault_by": "circuit stand seen paper", "faults_for": "circuit stand seen"},
    "led": {
        "led_sections": "sections names", "led_round": "steps names", "led_circuit": "circuit names",
        "led_stand": "stand names", "led_paper": "paper names", "led_fault": "fault names",
    },
    "codes": {"code_places": "groups", "code_marks": "groups", "code_of": "groups place"},
    "coded": {"coded_circuit": "sections steps cut", "coded_rest": "sections steps cut"},
    "texts": {
        "show_round": "steps", "show_circuit": "circuit", "read_round": "sections text", "read_circuit": "text",
    },
    "desk": {"Desk": ""},
}


class InterfaceTest(unittest.TestCase):
    def test_each_name_has_its_arguments(self):
        for module, functions in INTERFACE.items():
            found = importlib.import_module("pistonrounds." + module)
            for name, arguments in functions.items():
                told = list(inspect.signature(getattr(found, name)).parameters)
                self.assertEqual(told, arguments.split(), (module, name))

    def test_each_name_is_defined_where_it_is_listed(self):
        for module, functions in INTERFACE.items():
            found = importlib.import_module("pistonrounds." + module)
            for name in functions:
                self.assertEqual(getattr(found, name).__module__, "pistonrounds." + module)

    def test_desks_have_say(self):
        desk = importlib.import_module("pistonrounds.desk").Desk
        self.assertEqual(list(inspect.signature(vars(desk)["say"]).parameters), ["self", "row"])
        self.assertIsInstance(desk().say("sections 1"), str)

    def test_what_an_int_is_stands_in_ints(self):
        importlib.import_module("pistonrounds.ints")


if __name__ == "__main__":
    unittest.main()
