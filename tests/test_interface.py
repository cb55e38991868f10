"""The interface as the document lists it, and the README's examples."""

import doctest
import importlib
import inspect
import pathlib
import unittest

TOP = pathlib.Path(__file__).resolve().parent.parent
FUNCTIONS = {
    "fieldtable.octets": {
        "is_field": ["thing"], "are_fields": ["thing"], "is_setting": ["thing"], "are_octets": ["thing"],
        "number_octets": ["number", "prefix", "mark"], "string_octets": ["text", "prefix", "mark"],
    },
    "fieldtable.instructions": {
        "is_instruction": ["thing"], "is_answer": ["thing"], "write_instruction": ["instruction"],
        "write_answer": ["answer"], "read_instruction": ["octets"], "read_answer": ["octets"],
    },
    "fieldtable.blocks": {"is_block": ["thing"], "write_block": ["block"], "read_block": ["octets"]},
    "fieldtable.tables": {
        "run_table": ["setting", "instructions"], "says": ["setting", "entries", "block"],
    },
    "fieldtable.shortest": {
        "shortest": ["setting", "entries", "fields"], "are_lengths": ["setting", "entries", "fields", "thing"],
    },
    "fieldtable.orders": {
        "is_log": ["thing"], "run_order": ["setting", "log", "order"], "fails": ["setting", "log", "order"],
    },
    "fieldtable.judging": {
        "judge": ["setting", "log"], "ledger": ["setting", "log"], "repair": ["setting", "log"], "widest": ["setting", "log"],
    },
    "fieldtable.states": {"all_states": ["setting", "log"], "are_states": ["setting", "log", "thing"]},
}
METHODS = {
    ("fieldtable.receivers", "Receiver"): {
        "__init__": ["setting"], "take": ["octets"], "block": ["stream", "octets"], "tell": ["n"], "cancel": ["stream"],
        "lists": [], "answers": [], "waiting": [], "count": [], "entries": [],
    },
    ("fieldtable.senders", "Sender"): {
        "__init__": ["setting"], "insert": ["field"], "again": ["number"], "limit": ["n"], "block": ["stream", "fields"],
        "answer": ["octets"], "held": [], "may_wait": [], "known": [], "count": [], "entries": [],
    },
    ("fieldtable.wires", "Wire"): {
        "__init__": ["setting"], "insert": ["field"], "again": ["number"], "limit": ["n"], "block": ["stream", "fields"],
        "carry_table": ["n"], "carry_block": ["stream"], "carry_answers": [], "tell": ["n"], "cancel": ["stream"],
        "lists": [], "waiting": [], "held": [], "may_wait": [], "log": [], "mark": [], "back": ["number"],
    },
}
SETTING = ((("h", "x"),), 60, 1)
# In the second one an entry leaves although it is held.
GOOD_LOG = [("table", [65, 97, 1, 120]), ("table", [0])]
BAD_LOG = [("table", [65, 97, 1, 120]), ("block", 3, [1, 0, 128]), ("table", [32])]
# Each function with arguments in their places, in the order in which the interface lists their names.
CALLS = [
    ("fieldtable.octets", "is_field", [("a", "x")]),
    ("fieldtable.octets", "are_fields", [(("a", "x"),)]),
    ("fieldtable.octets", "is_setting", [SETTING]),
    ("fieldtable.octets", "are_octets", [[0, 255]]),
    ("fieldtable.octets", "number_octets", [31, 5, 64]),
    ("fieldtable.octets", "string_octets", ["a", 5, 64]),
    ("fieldtable.instructions", "is_instruction", [("again", 1)]),
    ("fieldtable.instructions", "is_answer", [("done", 1)]),
    ("fieldtable.instructions", "write_instruction", [("again", 1)]),
    ("fieldtable.instructions", "write_answer", [("done", 1)]),
    ("fieldtable.instructions", "read_instruction", [[1]]),
    ("fieldtable.instructions", "read_answer", [[129]]),
    ("fieldtable.blocks", "is_block", [(0, 0, ())]),
    ("fieldtable.blocks", "write_block", [(0, 0, ())]),
    ("fieldtable.blocks", "read_block", [[0, 0]]),
    ("fieldtable.tables", "run_table", [SETTING, [("fixed", 0, "y")]]),
    ("fieldtable.tables", "says", [SETTING, {0: ("a", "x")}, (1, 0, (("entry", 0), ("fixed", 0)))]),
    ("fieldtable.shortest", "shortest", [SETTING, {0: ("a", "x")}, (("a", "x"), ("h", "x"))]),
    ("fieldtable.shortest", "are_lengths", [SETTING, {}, (("h", "x"),), {(0, 0): 3}]),
    ("fieldtable.orders", "is_log", [GOOD_LOG]),
    ("fieldtable.orders", "run_order", [SETTING, GOOD_LOG, [("send",), ("table",)]]),
    ("fieldtable.orders", "fails", [SETTING, BAD_LOG, [("send",), ("send",), ("send",), ("table",), ("table",), ("block", 3)]]),
    ("fieldtable.judging", "judge", [SETTING, BAD_LOG]),
    ("fieldtable.judging", "ledger", [SETTING, GOOD_LOG]),
    ("fieldtable.judging", "repair", [SETTING, BAD_LOG]),
    ("fieldtable.judging", "widest", [SETTING, BAD_LOG[:2]]),
    ("fieldtable.states", "all_states", [SETTING, GOOD_LOG]),
    ("fieldtable.states", "are_states", [SETTING, GOOD_LOG[:0], [(0, 0, (), 0, ())]]),
]
# The same for methods, as calls one behind the other on one object.
RECEIVER_CALLS = [
    ("take", [[65, 97, 1, 120, 0]]), ("block", [3, [1, 0, 128]]), ("tell", [1]), ("cancel", [4]),
]
SENDER_CALLS = [
    ("insert", [("a", "x")]), ("again", [0]), ("limit", [20]), ("block", [3, (("a", "x"),)]), ("answer", [[131, 1]]),
]
WIRE_CALLS = [
    ("insert", [("a", "x")]), ("block", [3, (("a", "x"),)]), ("again", [0]), ("limit", [20]), ("carry_block", [3]),
    ("carry_table", [5]), ("tell", [1]), ("cancel", [4]), ("back", [0]),
]


class InterfaceTest(unittest.TestCase):
    def test_each_function_is_defined_in_its_module(self):
        for module_name, functions in FUNCTIONS.items():
            module = importlib.import_module(module_name)
            for name, arguments in functions.items():
                with self.subTest(name=name):
                    function = getattr(module, name)
                    self.assertTrue(inspect.isfunction(function))
                    self.assertEqual(function.__module__, module_name)
                    self.assertEqual(list(inspect.signature(function).parameters), arguments)

    def test_each_method_is_defined_in_its_class_itself(self):
        for (module_name, class_name), methods in METHODS.items():
            found = getattr(importlib.import_module(module_name), class_name)
            self.assertEqual(found.__module__, module_name)
            for name, arguments in methods.items():
                with self.subTest(name=name):
                    self.assertTrue(inspect.isfunction(vars(found)[name]))
                    self.assertEqual(list(inspect.signature(vars(found)[name]).parameters)[1:], arguments)

    def by_name(self, names, arguments):
        """The arguments by their names, the last one first."""
        return dict(reversed(list(zip(names, arguments, strict=True))))

    def test_arguments_of_functions_in_their_places_and_by_their_names(self):
        self.assertEqual(
            sorted((module_name, name) for module_name, name, _ in CALLS),
            sorted((module_name, name) for module_name in FUNCTIONS for name in FUNCTIONS[module_name]),
        )
        for module_name, name, arguments in CALLS:
            function = getattr(importlib.import_module(module_name), name)
            names = FUNCTIONS[module_name][name]
            with self.subTest(name=name):
                result = function(*arguments)
                self.assertTrue(result)
                self.assertEqual(function(**self.by_name(names, arguments)), result)
                self.assertEqual(function(*arguments[:1], **self.by_name(names[1:], arguments[1:])), result)

    def check_methods(self, module_name, class_name, calls):
        methods = METHODS[module_name, class_name]
        self.assertEqual({name for name, _ in calls}, {name for name in methods if methods[name]} - {"__init__"})
        made = getattr(importlib.import_module(module_name), class_name)
        plain, named = made(SETTING), made(setting=SETTING)
        shown = [name for name in methods if not methods[name]]
        for show in shown:
            self.assertEqual(getattr(plain, show)(), getattr(named, show)())
        for name, arguments in calls:
            with self.subTest(name=name):
                result = getattr(plain, name)(*arguments)
                self.assertEqual(getattr(named, name)(**self.by_name(methods[name], arguments)), result)
                for show in shown:
                    self.assertEqual(getattr(plain, show)(), getattr(named, show)())

    def test_arguments_of_methods_in_their_places_and_by_their_names(self):
        self.check_methods("fieldtable.receivers", "Receiver", RECEIVER_CALLS)
        self.check_methods("fieldtable.senders", "Sender", SENDER_CALLS)
        self.check_methods("fieldtable.wires", "Wire", WIRE_CALLS)

    def test_kinds_of_values(self):
        receivers, senders = importlib.import_module("fieldtable.receivers"), importlib.import_module("fieldtable.senders")
        receiver, sender = receivers.Receiver(SETTING), senders.Sender(SETTING)
        for name, arguments in RECEIVER_CALLS:
            self.assertIsNone(getattr(receiver, name)(*arguments))
        for name, arguments in SENDER_CALLS:
            result = getattr(sender, name)(*arguments)
            self.assertIs(type(result), type(None) if name == "answer" else list)
        for thing, kinds in [
            (receiver, {"lists": list, "answers": list, "waiting": tuple, "count": int, "entries": dict}),
            (sender, {"held": tuple, "may_wait": tuple, "known": int, "count": int, "entries": dict}),
        ]:
            for name, kind in kinds.items():
                self.assertIs(type(getattr(thing, name)()), kind, name)

    def test_kinds_of_values_of_a_wire(self):
        wire = importlib.import_module("fieldtable.wires").Wire(SETTING)
        self.assertIs(type(wire.mark()), int)
        for name, arguments in WIRE_CALLS:
            self.assertIsNone(getattr(wire, name)(*arguments))
        kinds = {"carry_answers": type(None), "lists": list, "waiting": tuple, "held": tuple, "may_wait": tuple, "log": list}
        for name, kind in kinds.items():
            self.assertIs(type(getattr(wire, name)()), kind, name)

    def test_examples_of_the_readme(self):
        # The fences of the README would count as a part of what is printed.
        text = (TOP / "README.md").read_text(encoding="ascii").replace("```", "")
        test = doctest.DocTestParser().get_doctest(text, {}, "README.md", "README.md", 0)
        failures, tries = doctest.DocTestRunner().run(test)
        self.assertEqual(failures, 0)
        self.assertGreater(tries, 9)


if __name__ == "__main__":
    unittest.main()
