"""The interface: where each function and class is defined, and the names of its arguments."""

import importlib
import inspect
import unittest

INTERFACE = {
    "errors": {"TurnError": None, "ProgramFault": "line word", "NotEnabled": "at", "TooMany": "limit",
               "NoSuchPlace": "word", "NothingToUndo": None},
    "values": {"is_value": "n", "operate": "sign x y"},
    "tokens": {"tokens": "line"},
    "expressions": {"read_expression": "parts", "write_expression": "tree", "evaluate": "tree registers"},
    "instructions": {"is_name": "text", "expression_of": "instruction", "thing_of": "instruction"},
    "programs": {"read_program": "text", "kind_of": "program name", "names_of": "program kind",
                 "lock_of": "program cond"},
    "writing": {"write_program": "program", "write_instruction": "instruction"},
    "machine": {"first_state": "program", "enabled": "program state", "blocked": "program state",
                "make_step": "program state thread", "is_deadlock": "program state"},
    "showing": {"show_state": "program state"},
    "schedules": {"run": "program schedule", "switches": "schedule"},
    "order": {"dependent": "one other", "before": "steps", "clocks": "steps threads"},
    "classes": {"least": "steps", "is_least": "steps", "equivalent": "one other", "class_size": "steps",
                "rows_of_class": "steps most"},
    "exploring": {"tried": "program limit most", "executions": "program limit most"},
    "counting": {"count_executions": "program limit"},
    "failures": {"failures": "steps", "deadlocks": "program state", "rings": "program state"},
    "races": {"race_pairs": "program steps", "races": "program steps"},
    "notices": {"lost_notices": "program schedule"},
    "blocks": {"block_steps": "program steps", "broken_blocks": "program steps"},
    "faults": {"faults_of": "program schedule", "finds": "program limit most"},
    "observers": {"outcome": "program schedule", "outcomes": "program limit most",
                  "history": "program schedule name", "histories": "program name limit most",
                  "difference": "one other limit most"},
    "bench": {"Bench": "program limit most"},
    "guarding": {"spans": "program thread name", "guarded": "program guards name", "inside": "guards other",
                 "cost": "guards"},
    "repairs": {"is_safe": "program limit most", "least_repairs": "program variable name limit most"},
    "nearest": {"leads_to": "program schedule place", "nearest": "program place limit"},
    "papers": {"paper_of": "program limit"},
    "judge": {"judge": "program paper"},
}
METHODS = {"program": "", "tried": "", "executions": "", "finds": "", "change": "thread pc line", "undo": "",
           "work": ""}


class InterfaceTest(unittest.TestCase):
    def test_each_name_is_defined_in_its_file(self):
        for name, listed in INTERFACE.items():
            module = importlib.import_module(f"everyturn.{name}")
            for word in listed:
                self.assertEqual(getattr(module, word).__module__, f"everyturn.{name}", word)

    def test_arguments_have_their_names_and_order(self):
        for name, listed in INTERFACE.items():
            module = importlib.import_module(f"everyturn.{name}")
            for word, arguments in listed.items():
                if arguments is not None:
                    signature = inspect.signature(getattr(module, word))
                    self.assertEqual(" ".join(signature.parameters), arguments, (name, word))

    def test_methods_stand_in_their_class_itself(self):
        own = vars(importlib.import_module("everyturn.bench").Bench)
        for name, arguments in METHODS.items():
            self.assertEqual(" ".join(inspect.signature(own[name]).parameters), ("self " + arguments).strip(), name)


if __name__ == "__main__":
    unittest.main()
