"""A way's edges and one step beyond each, for write and for head; counts and numbers at their ends."""

import unittest

from tests.reference import head_bytes, items_in, rests_items, seal
from tests.telling import block_of, cut_of, head, last, read, write

# Each of these: what is asked, whether it may be, and where the head's fault is if not (None: not told by bytes).
STAGE_AT = 18


def stage_way(taps=4, gain=10, kind=0, scale=0):
    return [0, 1, taps, gain, kind, scale]


def stage_block(taps=4, gain=10, kind=0, scale=0):
    """A key block of one row with one stage, whatever its numbers, that shows one 0."""
    way = [0, 1, taps % 256, taps // 256, gain % 256, gain // 256, kind, scale, 0, 0]
    return seal(head_bytes(1, 1, 8, 0, 1, 1) + way + items_in(rests_items([[0]]), 1))


class Settings(unittest.TestCase):
    def goes(self, numbers, **more):
        told = last(write(numbers, **more))
        self.assertEqual(told[0], 0, more)
        block = told[2:]
        self.assertEqual(last(cut_of(numbers, **more))[2:], last(read(block))[3:], more)
        self.assertEqual(last(head(block))[0], 0)
        return block

    def refused(self, numbers, **more):
        self.assertEqual(last(write(numbers, **more)), [-1], more)
        self.assertEqual(last(cut_of(numbers, **more)), [-1], more)

    def head_fault(self, place, byte):
        block = block_of(write([0]))
        self.assertEqual(last(head(seal(block[:place] + [byte] + block[place + 1:]))), [-8, 1, place])

    def test_key(self):
        self.refused([0], key=2)
        self.head_fault(2, 2)

    def test_bits(self):
        for bits in (8, 24):
            self.goes([-2 ** (bits - 1), 2 ** (bits - 1) - 1, 0], bits=bits)
        for bits in (7, 25):
            self.refused([0], bits=bits)
            self.head_fault(4, bits)

    def test_numbers_at_both_ends_and_one_beyond(self):
        for bits in (8, 13, 24):
            low, high = -2 ** (bits - 1), 2 ** (bits - 1) - 1
            self.assertEqual(last(read(self.goes([low, high, low], bits=bits)))[3:], [low, high, low])
            self.refused([low - 1], bits=bits)
            self.refused([high + 1], bits=bits)
            self.refused([0, 0, high + 1, 0], bits=bits, rows=2)

    def test_cut(self):
        for bits in (8, 24):
            low, high = -2 ** (bits - 1), 2 ** (bits - 1) - 1
            for cut in (0, 1, bits - 1):
                self.goes([low, high, 0, 1, -1], bits=bits, cut=cut, shape=[8, -8, 3, 127])
            self.refused([0], bits=bits, cut=bits)
        self.head_fault(5, 8)

    def test_the_most_that_can_be_cut(self):
        self.assertEqual(last(cut_of([-128, -65, -64, 0, 64, 127], cut=7))[2:], [-128, -128, 0, 0, 0, 0])

    def test_lanes(self):
        for lanes in (1, 4, 8, 16):
            block = self.goes([5, -5, 90, 2], lanes=lanes)
            self.assertEqual(block[6], lanes)
        for lanes in (0, 2, 3, 5, 7, 9, 15, 17):
            self.refused([0], lanes=lanes)
            self.head_fault(6, lanes)

    def test_rows(self):
        for rows in (1, 2, 3, 4):
            block = self.goes([3 * i for i in range(rows * 2)], rows=rows)
            self.assertEqual(last(read(block)), [0, rows, rows * 2] + [3 * i for i in range(rows * 2)])
        self.refused([], rows=0, way=[])
        self.refused([0], rows=0, way=[])
        self.refused([0] * 5, rows=5)
        self.head_fault(3, 0)
        self.head_fault(3, 5)

    def test_fixed(self):
        for fixed in (0, 1, 2, 3):
            self.goes([1, 100, -100, 127, -128], way=[fixed, 0])
        self.refused([0], way=[4, 0])
        self.head_fault(16, 4)

    def test_how_many_stages(self):
        for stages in (0, 1, 2):
            self.goes([1, 100, -100, 127], way=[0, stages] + [4, 10, 0, 0] * stages)
        self.refused([0], way=[0, 3] + [4, 10, 0, 0] * 3)
        self.head_fault(17, 3)

    def test_joint(self):
        for joint in (0, 1, 2, 3):
            self.goes([1, 100, -128, 127, -3, -100], rows=2, way=[0, 0, 0, 0, joint])
            self.goes(list(range(-6, 6)), rows=4, way=[0] * 8 + [3 - joint, joint])
        self.refused([0, 0], rows=2, way=[0, 0, 0, 0, 4])
        self.refused([0] * 4, rows=4, way=[0] * 9 + [4])
        block = block_of(write([0, 0], rows=2))
        self.assertEqual(last(head(seal(block[:20] + [4] + block[21:]))), [-8, 1, 20])

    def test_three_rows_have_one_pair(self):
        self.goes([1, 2, 3], rows=3, way=[0] * 6 + [3])
        self.refused([1, 2, 3], rows=3, way=[0] * 6)
        self.refused([1, 2, 3], rows=3, way=[0] * 8)

    def test_shape(self):
        for shape in ([-128] * 4, [127] * 4, [-128, 127, -128, 127]):
            self.goes([100, -100, 50, 3, 2, 1, 0] * 9, cut=4, shape=shape)
        for place in range(4):
            for part in (-129, 128):
                shape = [0] * 4
                shape[place] = part
                self.refused([0], shape=shape)

    def test_stages(self):
        for stage in (dict(taps=1), dict(taps=16), dict(taps=1, kind=1), dict(taps=8, kind=1), dict(gain=1), dict(gain=1024),
                      dict(scale=0), dict(scale=12), dict(kind=1, gain=1024), dict(kind=1, gain=1)):
            self.goes([100, -100, 50, 3, 2, 1, 0] * 9, way=stage_way(**stage))
            self.assertEqual(last(head(stage_block(**stage)))[0], 0)
            self.assertEqual(last(read(stage_block(**stage))), [0, 1, 1, 0])
        for stage, place in ((dict(taps=0), 0), (dict(taps=17), 0), (dict(taps=256), 0), (dict(gain=0), 2), (dict(gain=1025), 2),
                             (dict(gain=65535), 2), (dict(kind=2), 4), (dict(taps=9, kind=1), 4), (dict(taps=16, kind=1), 4),
                             (dict(scale=13), 5), (dict(kind=1, scale=1), 5), (dict(taps=17, kind=1), 0)):
            self.refused([0], way=stage_way(**stage))
            self.assertEqual(last(head(stage_block(**stage))), [-8, 1, STAGE_AT + place], stage)

    def test_the_second_stage_and_the_second_row_are_held_to_the_same(self):
        good = [2, 3, 0, 1]
        for bad in ([0, 3, 0, 1], [2, 0, 0, 1], [9, 3, 1, 0], [2, 3, 1, 1], [2, 3, 0, 13], [17, 3, 0, 0]):
            self.refused([0], way=[0, 2] + good + bad)
            self.refused([0, 0], rows=2, way=[0, 0, 0, 1] + bad + [0])
        self.goes([0], way=[0, 2] + good + good)
        self.goes([0, 0], rows=2, way=[0, 0, 0, 1] + good + [0])

    def test_counts(self):
        for count in (1, 15, 16, 17, 63, 64):
            for rows in (1, 2, 3, 4):
                numbers = [(i * i * 7) % 256 - 128 for i in range(rows * count)]
                block = self.goes(numbers, rows=rows, lanes=4, way=[1, 1, 3, 20, 0, 0] * rows + [2] * (rows // 2))
                self.assertEqual(block[8:12], [count, 0, 0, 0])
                self.assertEqual(last(read(block)), [0, rows, rows * count] + numbers)
        for rows in (1, 2, 3):
            self.refused([], rows=rows)
            self.refused([0] * (65 * rows), rows=rows)
        self.head_fault(8, 0)
        self.head_fault(8, 65)

    def test_numbers_not_as_many_of_each_row(self):
        for rows, many in ((2, 1), (2, 3), (3, 4), (3, 5), (4, 2), (4, 255)):
            self.refused([0] * many, rows=rows)


if __name__ == "__main__":
    unittest.main()
