"""What each call answers, its refusals in their order, and that a refusal changes nothing."""

import unittest

from tests.reference import seal
from tests.telling import ask, block_of, cut_of, head, last, read, write

FRAME = dict(bits=12, cut=2, lanes=4, rows=2)
WAY = [1, 1, 4, 32, 0, 2, 2, 1, 3, 5, 1, 0, 3]
SHAPE = [9, -4, 2, 1]
SOUND = [100, -200, 300, -400, 7, 9]


def first(**more):
    return write(SOUND, **dict(dict(FRAME, way=WAY, shape=SHAPE), **more))


def behind(**more):
    return first(**dict(dict(key=0), **more))


def no_key_block():
    return block_of(first(), behind())


class Open(unittest.TestCase):
    def test_nothing_is_learnt_any_more(self):
        block = no_key_block()
        self.assertEqual(ask(first(), ("open",), behind(), read(block)), [block_answer(first()), [0], [-4], [-4]])

    def test_it_answers_0_at_any_time(self):
        self.assertEqual(ask(("open",), ("open",)), [[0], [0]])


def block_answer(*calls):
    return last(*calls)


class Head(unittest.TestCase):
    def test_what_it_tells(self):
        self.assertEqual(last(head(block_of(first()))), [0, 1, 2, 12, 2, 4, 3])
        self.assertEqual(last(head(no_key_block())), [0, 0, 2, 12, 2, 4, 3])

    def test_it_asks_nothing_of_what_is_learnt_and_learns_nothing(self):
        block = block_of(first())
        self.assertEqual(ask(head(block), behind())[1], [-4])
        self.assertEqual(ask(write([1]), head(block), write([2], key=0))[2], last(write([1]), write([2], key=0)))

    def test_nothing_behind_the_head_is_looked_at_but_for_the_check(self):
        key = block_of(first())
        length = 16 + 2 * 2 + 2 * 8 + 1
        for tail in ([], [0], [0] * 16, [255] * 31):
            self.assertEqual(last(head(seal(key[:length] + tail))), [0, 1, 2, 12, 2, 4, 3])
        self.assertEqual(last(head(seal(no_key_block()[:16]))), [0, 0, 2, 12, 2, 4, 3])
        self.assertEqual(last(head(key[:-1] + [key[-1] ^ 128])), [-8, 2, 12])

    def test_faults_of_kinds_1_and_2_in_this_order(self):
        block = block_of(first())
        wrong = block[:3] + [5] + block[4:]
        self.assertEqual(last(head(wrong)), [-8, 1, 3])
        self.assertEqual(last(head(seal(wrong))), [-8, 1, 3])
        self.assertEqual(last(head(block[:12] + [block[12] ^ 1] + block[13:])), [-8, 2, 12])


class Read(unittest.TestCase):
    def test_what_it_tells(self):
        shown = last(cut_of(SOUND, way=WAY, shape=SHAPE, **FRAME))[2:]
        self.assertEqual(last(read(block_of(first()))), [0, 2, 6] + shown)

    def test_what_is_read_is_learnt(self):
        shown = last(read(block_of(first())))[3:]
        plain = dict(way=WAY, **FRAME)
        self.assertEqual(last(read(block_of(first())), write(shown, key=0, **plain)),
                         last(write(shown, **plain), write(shown, key=0, **plain)))

    def test_no_key_and_another_head_than_what_is_learnt_has(self):
        block = no_key_block()
        self.assertEqual(last(first(), read(block))[0], 0)
        self.assertEqual(last(read(block)), [-4])
        for more in (dict(bits=13), dict(cut=1), dict(lanes=8), dict(rows=1, way=WAY[:6]), dict(rows=3, way=WAY[:12] + [0, 0, 3])):
            with self.subTest(more=more):
                self.assertEqual(ask(first(**more), read(block))[1], [-4])

    def test_no_key_by_another_way_of_as_many_rows_is_not_refused_for_it(self):
        block = block_of(write([1, 2]), write([3, 4], key=0))
        self.assertEqual(last(write([1, 2], way=[1, 0]), read(block)), [0, 1, 2, 5, 9])

    def test_a_key_is_read_whatever_is_learnt(self):
        block = block_of(first())
        alone = last(read(block))
        self.assertEqual(alone[0], 0)
        for before in (write([1]), first(bits=13), first(lanes=16), first()):
            self.assertEqual(last(before, read(block)), alone)

    def test_the_order_of_refusals(self):
        block = no_key_block()
        self.assertEqual(last(read(block[:7] + [1] + block[8:])), [-8, 1, 7])
        self.assertEqual(last(read(block[:-1] + [block[-1] ^ 1])), [-8, 2, 12])
        for short in (block[:16], block[:-1], block + [0, 0]):
            self.assertEqual(last(read(seal(short))), [-4])
            self.assertEqual(last(write([1]), read(seal(short))), [-4])
            self.assertEqual(last(first(), read(seal(short)))[0], -8)

    def test_a_refusal_changes_nothing(self):
        block = no_key_block()
        spoilt = [[], block[:-1], seal(block[:16]), seal(block[:-1]), seal(block + [0, 0]), seal(block[:-2]),
                  block_of(write([1]), write([2], key=0))]
        plain = ask(first(), behind(), behind(shape=[0, 0, 0, 99]))
        for bad in spoilt:
            told = ask(first(), read(bad), behind(), read(bad), behind(shape=[0, 0, 0, 99]))
            self.assertIn(told[1][0], (-4, -8))
            self.assertEqual([told[0], told[2], told[4]], plain)


class WriteAndCut(unittest.TestCase):
    def both(self, *before, **more):
        numbers = more.pop("numbers", SOUND)
        asked = dict(dict(FRAME, way=WAY, shape=SHAPE), **more)
        told = [last(*before, write(numbers, **asked)), last(*before, cut_of(numbers, **asked))]
        if told[0][0] != 0:
            self.assertEqual(told[0], told[1])
        return told[1]

    def test_what_cut_tells(self):
        told = self.both()
        self.assertEqual(told[:2], [0, 6])
        self.assertTrue(all(number % 4 == 0 for number in told[2:]))

    def test_cut_learns_nothing(self):
        asked = dict(FRAME, way=WAY, shape=SHAPE)
        self.assertEqual(last(cut_of(SOUND, **asked), behind()), [-4])
        self.assertEqual(last(first(), cut_of([5, 6], **asked), cut_of([5, 6], key=0, **asked), behind()),
                         last(first(), behind()))

    def test_minus_1(self):
        wrong = [dict(key=2), dict(key=9007199254740991), dict(bits=7), dict(bits=25), dict(bits=9007199254740991),
                 dict(cut=12), dict(cut=9007199254740991), dict(lanes=0), dict(lanes=2), dict(lanes=17), dict(rows=0),
                 dict(rows=5), dict(rows=9007199254740991), dict(rows=1), dict(rows=3), dict(way=[]), dict(way=WAY[:-1]),
                 dict(way=WAY + [0]), dict(way=[4] + WAY[1:]), dict(way=WAY[:-1] + [4]), dict(shape=[]),
                 dict(shape=[0, 0, 0]), dict(shape=[0, 0, 0, 128]), dict(shape=[-129, 0, 0, 0]),
                 dict(shape=[0, 9007199254740991, 0, 0]), dict(numbers=[]), dict(numbers=[1]), dict(numbers=[1, 2, 3]),
                 dict(numbers=[1] * 130), dict(numbers=[2048, 0]), dict(numbers=[0, -2049])]
        for more in wrong:
            with self.subTest(more=more):
                self.assertEqual(self.both(**more), [-1])
                self.assertEqual(self.both(first(), **dict(dict(key=0), **more)), [-1])

    def test_minus_4(self):
        self.assertEqual(self.both(key=0), [-4])
        other_way = [2] + WAY[1:]
        for more in (dict(bits=13), dict(cut=3), dict(lanes=8), dict(way=other_way), dict(way=WAY[:-1] + [2]),
                     dict(rows=1, way=WAY[:6]), dict(way=WAY[:3] + [33] + WAY[4:])):
            with self.subTest(more=more):
                self.assertEqual(self.both(first(), key=0, **more), [-4])
                self.assertEqual(self.both(first(), **more)[0], 0)

    def test_minus_1_comes_ahead_of_minus_4(self):
        self.assertEqual(self.both(key=0, shape=[0, 0, 0, 200]), [-1])
        self.assertEqual(self.both(key=0, numbers=[]), [-1])
        self.assertEqual(self.both(first(), key=0, bits=13, way=[]), [-1])

    def test_shape_need_not_be_that_of_the_block_before(self):
        self.assertEqual(self.both(first(), key=0, shape=[-128, 127, 0, 5])[0], 0)

    def test_a_refusal_changes_nothing(self):
        plain = ask(first(), behind(), behind(shape=[77, 0, 0, 0]))
        for bad in (first(key=2), behind(bits=13), behind(shape=[]), behind(way=[0, 0, 0, 0, 0]), first(way=[]),
                    behind(lanes=8), behind(cut=0)):
            told = ask(first(), bad, behind(), bad, behind(shape=[77, 0, 0, 0]))
            self.assertIn(told[1], ([-1], [-4]))
            self.assertEqual([told[0], told[2], told[4]], plain)


if __name__ == "__main__":
    unittest.main()
