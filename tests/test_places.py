"""The place of NoOctets (point 7), for many octets, beside a slow reader that knows only what is written."""

import unittest

from fieldtable.blocks import is_block, read_block, write_block
from fieldtable.errors import NoOctets
from fieldtable.instructions import is_answer, is_instruction, read_answer, read_instruction
from fieldtable.instructions import write_answer, write_instruction
from tests.slow_reader import bad_place
from tests.test_blocks import WRITTEN_BLOCKS
from tests.test_instructions import WRITTEN_ANSWERS, WRITTEN_INSTRUCTIONS

INSERTED = [0, 1, 3, 7, 15, 16, 31, 32, 41, 63, 64, 96, 97, 127, 128, 129, 191, 192, 254, 255]
KINDS = {
    "instruction": (is_instruction, write_instruction, read_instruction),
    "answer": (is_answer, write_answer, read_answer),
    "block": (is_block, write_block, read_block),
}


def near(octets):
    """These octets cut, with one changed, put in or left out, and with more behind."""
    for at in range(len(octets)):
        yield octets[:at]
        yield octets[:at] + octets[at + 1:]
        for octet in range(256):
            yield octets[:at] + [octet] + octets[at + 1:]
    for at in range(len(octets) + 1):
        for octet in INSERTED:
            yield octets[:at] + [octet] + octets[at:]
    for octet in INSERTED:
        yield octets + [octet, octet]


class PlacesTest(unittest.TestCase):
    def check(self, kind, octets):
        is_one, write, read = KINDS[kind]
        expected = bad_place(kind, octets)
        try:
            found = read(octets)
        except NoOctets as error:
            self.assertEqual(error.place, expected, (kind, octets))
            return
        self.assertIsNone(expected, (kind, octets))
        self.assertIs(is_one(found), True)
        self.assertEqual(write(found), octets)

    def check_near(self, kind, written):
        for _, octets in written:
            for changed in near(octets[:30]):
                self.check(kind, changed)

    def test_near_instructions(self):
        self.check_near("instruction", WRITTEN_INSTRUCTIONS)

    def test_near_answers(self):
        self.check_near("answer", WRITTEN_ANSWERS)

    def test_near_blocks(self):
        self.check_near("block", WRITTEN_BLOCKS)

    def test_all_short_octets(self):
        for kind in KINDS:
            self.check(kind, [])
            for first in range(256):
                self.check(kind, [first])
                for second in range(256):
                    self.check(kind, [first, second])

    def test_all_short_lines(self):
        for head in ([0, 0], [9, 1], [140, 3], [140, 137], [200, 100]):
            for first in range(256):
                for second in (0, 1, 2, 4, 5, 6, 8, 40, 41, 97, 126, 127, 128, 129, 130, 131, 132, 133, 255):
                    self.check("block", head + [first, second])
                    self.check("block", head + [first, second, 1])
                    self.check("block", head + [first, second, 0, 97])


if __name__ == "__main__":
    unittest.main()
