"""The document's examples, to the number, through the list of whole numbers itself."""

import unittest

from bitsound.blocks import answers
from tests.reference import seal
from tests.telling import ask, block_of, cut_of, last, read, write


class Examples(unittest.TestCase):
    def test_write_of_no_key_with_nothing_learnt(self):
        self.assertEqual(answers([3, 0, 8, 0, 1, 1, 2, 0, 0, 4, 0, 0, 0, 0, 1, 5]), [1, -4])

    def test_read_of_no_key_with_nothing_learnt(self):
        block = block_of(write([1]), write([2], key=0))
        self.assertEqual(last(read(block)), [-4])
        self.assertEqual(last(read(seal(block[:16]))), [-4])

    def test_read_of_no_key_with_a_wrong_head_or_check(self):
        block = block_of(write([1]), write([2], key=0))
        self.assertEqual(last(read([75] + block[1:])), [-8, 1, 0])
        self.assertEqual(last(read(block[:-1] + [block[-1] ^ 1])), [-8, 2, 12])

    def test_head_of_no_bytes(self):
        self.assertEqual(answers([1, 0]), [3, -8, 1, 0])

    def test_head_of_three_bytes(self):
        self.assertEqual(answers([1, 3, 76, 83, 2]), [3, -8, 1, 2])

    def test_cut_of_100_and_minus_100(self):
        line = [4, 1, 8, 4, 1, 1, 2, 0, 0, 4, 0, 0, 0, 0, 2, 100, -100]
        self.assertEqual(answers(line), [4, 0, 2, 96, -96])

    def test_cut_of_127(self):
        line = [4, 1, 8, 4, 1, 1, 2, 0, 0, 4, 0, 0, 0, 0, 1, 127]
        self.assertEqual(answers(line), [3, 0, 1, 112])

    def test_what_is_cut_is_what_is_read(self):
        for numbers in ([100, -100], [127]):
            block = block_of(write(numbers, cut=4))
            shown = ask(cut_of(numbers, cut=4), read(block))
            self.assertEqual(shown[0][2:], shown[1][3:])


if __name__ == "__main__":
    unittest.main()
