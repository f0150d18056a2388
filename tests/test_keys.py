"""Keys and blocks behind them: what's learnt goes on, and what's cut wrong goes on from a write alone."""

import random
import unittest

from tests.making import some_asking, some_setting
from tests.telling import ask, block_of, cut_of, last, read, write

CUT = dict(cut=4, shape=[8, 0, 0, 0])


class CutWrong(unittest.TestCase):
    def test_by_hand(self):
        # 100: 96, wrong -4; 100 - [-28 / 8] = 104: 112, wrong 8; 0 - [68 / 8] = -8: 0, wrong 8; and so again.
        self.assertEqual(last(cut_of([100, 100, 0, 0], **CUT))[2:], [96, 112, 0, 0])
        self.assertEqual(last(cut_of([100, 100, 0, 1, 2], **CUT))[2:], [96, 112, 0, 0, 0])

    def test_the_four_last_each_with_its_own_part(self):
        # -6 is cut to 0, wrong by 6; each part of the shape in turn brings it back when its time comes.
        for place in range(4):
            shape = [0] * 4
            shape[place] = 16
            wanted = [0] * 7
            # behind it 0 - [(16 * 6 + 4) / 8] = -12: -16, wrong -4; then 0 - [(-64 + 4) / 8] = 8: 16
            wanted[1 + place] = -16
            if 2 + 2 * place < 7:
                wanted[2 + 2 * place] = 16
            told = last(cut_of([-6] + [0] * 6, cut=4, shape=shape))[2:]
            self.assertEqual(told[:3 + 2 * place], wanted[:3 + 2 * place])

    def test_it_goes_on_behind_a_write(self):
        self.assertEqual(last(write([100], **CUT), cut_of([100, 0], key=0, **CUT))[2:], [112, 0])

    def test_it_goes_on_over_blocks_that_are_short(self):
        numbers = [90, 3, -77, 41, 100, -100, 8, 9, 10, 11]
        shape = [30, -70, 20, 100]
        whole = last(cut_of(numbers, cut=4, shape=shape))[2:]
        for cut_at in range(1, len(numbers)):
            calls = [write([x], key=int(i == 0), cut=4, shape=shape) for i, x in enumerate(numbers[:cut_at])]
            told = last(*(calls + [cut_of(numbers[cut_at:], key=0, cut=4, shape=shape)]))
            self.assertEqual(told[2:], whole[cut_at:])

    def test_it_is_0_at_a_key(self):
        self.assertEqual(last(write([100], **CUT), cut_of([100, 0], **CUT)), last(cut_of([100, 0], **CUT)))
        self.assertEqual(ask(write([100], **CUT), write([100, 0], **CUT))[1], last(write([100, 0], **CUT)))

    def test_it_is_0_behind_a_block_that_was_read(self):
        block = block_of(write([100], **CUT))
        fresh = last(cut_of([100, 0], **CUT))
        self.assertEqual(last(read(block), cut_of([100, 0], key=0, **CUT)), fresh)
        self.assertEqual(last(write([100], **CUT), read(block), cut_of([100, 0], key=0, **CUT)), fresh)
        behind = block_of(write([100], **CUT), write([100], key=0, **CUT))
        self.assertEqual(last(write([100], **CUT), read(behind), cut_of([100, 0], key=0, **CUT)), fresh)

    def test_cut_and_refusals_leave_it(self):
        wanted = last(write([100], **CUT), cut_of([100, 0], key=0, **CUT))
        told = last(write([100], **CUT), cut_of([3, 5, 7], key=0, **CUT), cut_of([3], **CUT), write([], key=0, **CUT),
                    read([1]), cut_of([100, 0], key=0, **CUT))
        self.assertEqual(told, wanted)

    def test_each_row_has_its_own(self):
        one = last(write([100, 50], **CUT), cut_of([100, 0, 3], key=0, **CUT))[2:]
        other = last(write([-33, 6], **CUT), cut_of([7, 8, 9], key=0, **CUT))[2:]
        both = last(write([100, 50, -33, 6], rows=2, **CUT), cut_of([100, 0, 3, 7, 8, 9], key=0, rows=2, **CUT))[2:]
        self.assertEqual(both, one + other)

    def test_another_shape_takes_up_what_the_one_before_left(self):
        # wrong by -4: [(16 * -4 + 4) / 8] = -8, so 100 becomes 108: 112; with no shape it stays 100: 96.
        self.assertEqual(last(write([100], **CUT), cut_of([100], key=0, cut=4, shape=[16, 0, 0, 0]))[2:], [112])
        self.assertEqual(last(write([100], **CUT), cut_of([100], key=0, cut=4))[2:], [96])

    def test_it_is_held(self):
        # Shaped so that it grows without end, it comes to its bound; what's shown stays within the bits.
        numbers = [127] * 64
        told = ask(*[write(numbers, key=int(i == 0), cut=1, shape=[127, 127, 127, 127]) for i in range(4)])
        self.assertEqual({answer[0] for answer in told}, {0})
        shown = last(cut_of(numbers, cut=1, shape=[-128] * 4))[2:]
        self.assertTrue(all(-128 <= number <= 127 for number in shown))

    def test_with_nothing_cut_shape_does_nothing(self):
        numbers = [5, -128, 127, 3]
        self.assertEqual(last(cut_of(numbers, shape=[127, -128, 3, 4])), [0, 4] + numbers)
        self.assertEqual(last(write(numbers, shape=[127, -128, 3, 4])), last(write(numbers)))


class Learning(unittest.TestCase):
    def test_filters_go_on_from_block_to_block(self):
        way = [3, 2, 4, 300, 0, 1, 3, 200, 1, 0]
        first, second = [10, 30, 60, 100], [90, 70, 20, -50]
        blocks = [answer[2:] for answer in ask(write(first, way=way), write(second, key=0, way=way))]
        self.assertNotEqual(block_of(write(second, way=way))[26:], blocks[1][16:])
        self.assertEqual([answer[3:] for answer in ask(read(blocks[0]), read(blocks[1]))], [first, second])

    def test_difference_goes_on_from_the_block_before(self):
        blocks = [answer[2:] for answer in ask(write([100], way=[1, 0]), write([101], key=0, way=[1, 0]))]
        self.assertEqual(blocks[1][16:], block_of(write([1]))[18:])

    def test_a_key_begins_anew(self):
        way = [3, 2, 4, 300, 0, 1, 3, 200, 1, 0]
        numbers = [10, 30, 60, 100]
        self.assertEqual(last(write(numbers, way=way), write(numbers, key=0, way=way), write(numbers, way=way)),
                         last(write(numbers, way=way)))

    def test_a_writer_may_go_on_behind_what_it_has_read(self):
        way = [2, 1, 4, 300, 0, 1]
        first = block_of(write([10, 30, 60], way=way))
        second = block_of(read(first), write([50, 40], key=0, way=way))
        self.assertEqual(second, block_of(write([10, 30, 60], way=way), write([50, 40], key=0, way=way)))
        self.assertEqual(last(read(first), read(second))[3:], [50, 40])

    def test_a_key_read_anywhere_is_read_alike(self):
        for seed in range(40):
            dice = random.Random(seed)
            setting = some_setting(dice)
            chain = [some_asking(dice, "write", key, setting, [1, 5, 17]) for key in (1, 0, 0)]
            blocks = [answer[2:] for answer in ask(*chain)]
            alone = ask(*[read(block) for block in blocks])
            other = some_asking(dice, "write", 1, some_setting(dice), [1, 9])
            more = some_asking(dice, "write", 0, setting, [1, 9])
            for before in ([other], [chain[0]], chain + [more], [read(blocks[0]), read(blocks[1])], [other, ("open",)],
                           [read(blocks[0][:-2])], [write([])]):
                told = ask(*(before + [read(block) for block in blocks]))
                self.assertEqual(told[len(before):], alone)


if __name__ == "__main__":
    unittest.main()
