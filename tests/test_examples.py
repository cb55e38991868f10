"""The examples of the document, as they stand."""

import doctest
import unittest

EXAMPLES = """
>>> from fieldtable.blocks import write_block
>>> write_block((2, 1, (("entry", 0), ("entry", 1), ("out", "a", ""))))
[2, 1, 128, 16, 33, 97, 0]
>>> from fieldtable.receivers import Receiver
>>> receiver = Receiver(((), 60, 1))
>>> [receiver.block(5, [1, 0, 128]), receiver.waiting(), receiver.take([65, 97, 1, 120]), receiver.lists(), receiver.answers()]
[None, (5,), None, [(5, (('a', 'x'),))], [133]]
>>> from fieldtable.judging import judge
>>> log = [("table", [65, 97, 1, 120]), ("block", 2, [1, 0, 128]), ("table", [65, 98, 1, 120])]
>>> judge(((), 6, 1), log)[:2]
('bad', 2)
>>> from fieldtable.judging import judge
>>> log = [("table", [65, 97, 1, 120]), ("block", 2, [1, 0, 128]), ("answer", [130]), ("table", [65, 98, 1, 120])]
>>> judge(((), 6, 1), log)
('good',)
>>> from fieldtable.wires import Wire
>>> wire = Wire(((), 60, 1))
>>> told = [wire.insert(("a", "x")), wire.block(2, (("a", "x"),)), wire.carry_block(2)]
>>> [wire.waiting(), wire.mark(), wire.carry_table(4), wire.lists(), wire.carry_answers(), wire.held(), wire.back(0), wire.held(), wire.lists()]
[(2,), 0, None, [(2, (('a', 'x'),))], None, (), None, (0,), []]
"""


class ExamplesTest(unittest.TestCase):
    def test_the_examples(self):
        test = doctest.DocTestParser().get_doctest(EXAMPLES, {}, "examples", None, 0)
        failures, tries = doctest.DocTestRunner().run(test)
        self.assertEqual((failures, tries), (0, 15))


if __name__ == "__main__":
    unittest.main()
