"""The interface as the document lists it, and the README's examples."""

import doctest
import importlib
import inspect
import pathlib
import unittest

TOP = pathlib.Path(__file__).resolve().parent.parent
FUNCTIONS = {
    "fieldtable.octets": {
        "is_field": ["thing"], "are_fields": ["thing"], "is_setting": ["thing"], "are_octets": ["thing"],
        "number_octets": ["number", "prefix", "mark"], "string_octets": ["text", "prefix", "mark"],
    },
    "fieldtable.instructions": {
        "is_instruction": ["thing"], "is_answer": ["thing"], "write_instruction": ["instruction"],
        "write_answer": ["answer"], "read_instruction": ["octets"], "read_answer": ["octets"],
    },
    "fieldtable.blocks": {"is_block": ["thing"], "write_block": ["block"], "read_block": ["octets"]},
}


class InterfaceTest(unittest.TestCase):
    def test_each_function_is_defined_in_its_module(self):
        for module_name, functions in FUNCTIONS.items():
            module = importlib.import_module(module_name)
            for name, arguments in functions.items():
                with self.subTest(name=name):
                    function = getattr(module, name)
                    self.assertTrue(inspect.isfunction(function))
                    self.assertEqual(function.__module__, module_name)
                    self.assertEqual(list(inspect.signature(function).parameters), arguments)

    def test_arguments_may_be_given_by_name(self):
        octets = importlib.import_module("fieldtable.octets")
        self.assertEqual(octets.number_octets(mark=64, prefix=5, number=31), [95, 0])
        self.assertEqual(octets.string_octets(mark=64, prefix=5, text="a"), [65, 97])

    def test_examples_of_the_readme(self):
        # The fences of the README would count as a part of what is printed.
        text = (TOP / "README.md").read_text(encoding="ascii").replace("```", "")
        test = doctest.DocTestParser().get_doctest(text, {}, "README.md", "README.md", 0)
        failures, tries = doctest.DocTestRunner().run(test)
        self.assertEqual(failures, 0)
        self.assertGreater(tries, 9)


if __name__ == "__main__":
    unittest.main()
