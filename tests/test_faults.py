"""Each kind of fault at each of its places, the order of two at once, and that nothing is learnt of one."""

import unittest

from tests.reference import head_bytes, items_in, number_items, parse_told, rests_items, seal, values_items, way_in_bytes
from tests.telling import ask, block_of, cut_of, head, last, read, write

# Two rows: the first has a narrow stage and a wide one, the second has none.
WAY = [1, 2, 5, 300, 0, 2, 3, 9, 1, 0, 2, 0, 3]
HEAD = 16 + 2 + 16 + 2 + 1
NUMBERS = [10, -20, 30, -40, 50, -60]


def key_call(**more):
    return write(NUMBERS, **dict(dict(rows=2, way=WAY, lanes=4), **more))


def key_block(**more):
    return block_of(key_call(**more))


def no_key_block():
    return block_of(key_call(), key_call(key=0))


def with_byte(block, place, byte):
    return block[:place] + [byte] + block[place + 1:]


def row_block(row, rows=1, count=1, lanes=1, bits=8, cut=0, key=1, way=None):
    """A block with the row of bytes as it stands."""
    told = [0, 0] * rows + [0] * (rows // 2) if way is None else way
    middle = way_in_bytes(parse_told(told, rows)) if key else []
    return seal(head_bytes(key, rows, bits, cut, lanes, count) + middle + row)


def value_block(values, rows=1, count=1, lanes=1, **more):
    """A block whose values are as told, by place t rows + r, and else 0."""
    every = {(t, r): values.get(t * rows + r, 0) for t in range(count) for r in range(rows)}
    return row_block(items_in(values_items(every, rows, count), lanes), rows, count, lanes, **more)


class FaultCase(unittest.TestCase):
    def fault(self, block, kind, place, *before):
        """read tells this fault; head too, if it's of kinds 1 or 2; and nothing is learnt of it."""
        self.assertEqual(last(*before, read(block)), [-8, kind, place])
        if kind <= 2:
            self.assertEqual(last(head(block)), [-8, kind, place])
        else:
            self.assertEqual(last(head(block))[0], 0)
        self.assertEqual(ask(read(block), key_call(key=0))[1], [-4])
        self.assertEqual(last(key_call(), read(block), key_call(key=0)), last(key_call(), key_call(key=0)))


class HeadFaults(FaultCase):
    def test_each_byte_that_can_not_be(self):
        block = key_block()
        wrong = [(0, 75), (0, 77), (0, 0), (1, 82), (1, 84), (2, 2), (2, 255), (3, 0), (3, 5), (3, 255), (4, 7), (4, 25), (5, 8),
                 (5, 255), (6, 0), (6, 2), (6, 32), (7, 1), (7, 128), (8, 0), (8, 65), (16, 4), (17, 3), (18, 0),
                 (18, 17), (22, 2), (22, 255), (23, 13), (24, 1), (26, 0), (26, 17), (30, 2), (31, 1), (32, 1),
                 (34, 4), (35, 3), (36, 4)]
        for place, byte in wrong:
            with self.subTest(place=place, byte=byte):
                self.fault(seal(with_byte(block, place, byte)), 1, place)
                self.fault(with_byte(block, place, byte), 1, place)

    def test_numbers_of_several_bytes_are_told_at_the_first(self):
        block = key_block()
        for at, first in ((9, 8), (10, 8), (11, 8), (19, 18), (21, 20), (25, 24), (27, 26), (29, 28), (33, 32)):
            with self.subTest(at=at):
                self.fault(seal(with_byte(block, at, 128)), 1, first)

    def test_gain_of_0_and_above_1024(self):
        block = key_block()
        for low, high, fits in ((0, 0, False), (1, 0, True), (0, 4, True), (1, 4, False)):
            changed = seal(block[:20] + [low, high] + block[22:])
            if fits:
                self.assertEqual(last(head(changed))[0], 0)
            else:
                self.fault(changed, 1, 20)

    def test_wide_with_too_many_taps_is_told_at_the_kind(self):
        block = key_block()
        self.assertEqual(last(head(seal(with_byte(block, 26, 8))))[0], 0)
        self.fault(seal(with_byte(block, 26, 9)), 1, 30)
        self.fault(seal(with_byte(with_byte(block, 26, 9), 31, 5)), 1, 30)
        self.fault(seal(with_byte(with_byte(block, 26, 9), 28, 0)), 1, 28)

    def test_wide_with_a_scale(self):
        self.fault(seal(with_byte(key_block(), 31, 1)), 1, 31)
        narrow_now_wide = with_byte(key_block(), 22, 1)
        self.fault(seal(narrow_now_wide), 1, 23)

    def test_the_length_where_it_ends(self):
        for block, end in ((key_block(), HEAD), (no_key_block(), 16)):
            for length in range(end):
                with self.subTest(length=length):
                    self.fault(block[:length], 1, length)
                    if length >= 16:
                        self.fault(seal(block[:length]), 1, length)
            self.assertNotEqual(last(key_call(), read(seal(block[:end])))[1], 1)

    def test_the_first_of_two(self):
        block = key_block()
        places = [(0, 1), (1, 1), (2, 9), (3, 9), (4, 1), (5, 99), (6, 3), (7, 3), (8, 0), (16, 9), (17, 9), (18, 0), (21, 9),
                  (22, 9), (23, 99), (24, 1), (34, 9), (35, 9), (36, 9)]
        told_at = {21: 20}
        for (first, one), (second, other) in zip(places, places[1:]):
            both = seal(with_byte(with_byte(block, first, one), second, other))
            self.fault(both, 1, told_at.get(first, first))
        self.fault([76, 83, 1, 9], 1, 3)
        self.fault([76, 83, 1], 1, 3)
        self.fault(with_byte(block, 7, 1)[:14], 1, 7)

    def test_cut_is_held_to_the_bits_of_its_block(self):
        block = key_block(bits=12, cut=11)
        self.assertEqual(last(head(block))[0], 0)
        self.fault(seal(with_byte(block, 5, 12)), 1, 5)
        self.fault(seal(with_byte(block, 4, 11)), 1, 5)


class CheckFaults(FaultCase):
    def test_any_bit_that_is_turned(self):
        for block in (key_block(), no_key_block()):
            begin = HEAD if block[2] else 16
            for place in list(range(12, 16)) + list(range(begin, len(block))):
                for bit in range(8):
                    self.assertEqual(last(read(with_byte(block, place, block[place] ^ (1 << bit)))), [-8, 2, 12])

    def test_a_head_that_could_be_but_is_not_what_was_checked(self):
        block = key_block()
        for place, byte in ((4, 9), (6, 8), (8, 4), (16, 0), (18, 6), (36, 2)):
            self.fault(with_byte(block, place, byte), 2, 12)

    def test_it_comes_behind_kind_1_and_ahead_of_all_else(self):
        block = key_block()
        self.fault(with_byte(block, 36, 9), 1, 36)
        self.fault(block[:-1], 2, 12)
        self.fault(block[:HEAD], 2, 12)
        self.fault(block + [0], 2, 12)
        self.assertEqual(last(read(no_key_block()[:-1])), [-8, 2, 12])

    def test_block_as_long_as_it_may_be(self):
        block = key_block()
        self.fault(block + [0] * (4000 - len(block)), 2, 12)
        self.fault(seal(block + [0] * (4000 - len(block))), 3, 3999)
        self.fault(seal(block + [0] * (3999 - len(block))), 5, 3999)


class RowBeginningFaults(FaultCase):
    def test_fewer_bytes_than_four_for_each_lane(self):
        for lanes in (1, 4, 8, 16):
            for size in (0, 1, 4 * lanes - 1):
                block = row_block([0] * size, lanes=lanes)
                self.fault(block, 3, 18 + size)

    def test_the_first_state_below(self):
        for lanes in (1, 4, 8, 16):
            for place in range(lanes):
                row = [0, 0, 1, 0] * lanes
                row[4 * place:] = [255, 255, 0, 0] * (lanes - place)
                self.fault(row_block(row, lanes=lanes), 3, 18 + 4 * place)

    def test_the_least_state_may_be(self):
        self.assertNotEqual(last(read(row_block([0, 0, 1, 0] * 4, lanes=4)))[:2], [-8, 3, 18])

    def test_an_odd_number(self):
        block = key_block()
        self.fault(seal(block + [0]), 3, len(block))
        self.fault(row_block([0, 0, 64, 0, 7]), 3, 22)

    def test_their_order(self):
        self.fault(row_block([0, 0, 0]), 3, 21)
        self.fault(row_block([255, 255, 0, 0, 9]), 3, 18)
        self.fault(row_block([0, 0, 1, 0] + [0] * 12 + [1], lanes=4), 3, 22)

    def test_no_key_begins_its_row_behind_16_bytes(self):
        before = write([0])
        self.assertEqual(last(before, read(row_block([1, 1], key=0))), [-8, 3, 18])
        self.assertEqual(last(before, read(row_block([1, 1, 0, 0], key=0))), [-8, 3, 16])
        self.assertEqual(last(before, read(row_block([0, 0, 64, 0, 1], key=0))), [-8, 3, 20])


class ItemFaults(FaultCase):
    def test_an_item_that_can_not_be_read(self):
        numbers = [100, -100] * 8
        block = block_of(write(numbers))
        self.assertGreater(len(block), 18 + 4 + 2)
        for length in range(18 + 4, len(block), 2):
            self.fault(seal(block[:length]), 3, length)

    def test_a_value_above_2_to_the_45(self):
        self.assertEqual(last(read(value_block({0: 2 ** 45}))), [-8, 4, 0])
        for value in (2 ** 45 + 1, 2 ** 46 - 1, 2 ** 46, 2 ** 60 + 5, 2 ** 64 - 2):
            self.fault(value_block({2: value}, count=3), 4, 2)

    def test_2_to_the_45_is_no_such_value(self):
        # 2 ** 44 comes, then what brings it back: only the first number is not of the bits.
        values = {0: 2 ** 45, 1: 2 ** 45 - 1}
        self.fault(value_block(values, count=2, way=[1, 0]), 4, 0)
        # An item further on is faulty, so it is told if the one before it is none.
        self.fault(value_block({0: 2 ** 45, 1: 2 ** 45 + 1}, count=2), 4, 1)

    def test_the_first_as_they_come_not_the_least(self):
        big = 2 ** 45 + 1
        self.fault(value_block({10: big, 1: big}, rows=2, count=6), 4, 10)
        self.fault(value_block({34: big, 1: big}, rows=2, count=18), 4, 1)
        self.fault(value_block({34: big, 33: big}, rows=2, count=18), 4, 34)
        self.fault(value_block({0: big, 1: big}, rows=2, count=6), 4, 0)
        for place in range(12):
            self.fault(value_block({place: big}, rows=3, count=4, lanes=4), 4, place)

    def test_of_an_item_that_ends_early_and_one_too_big_the_first_is_told(self):
        big_first = value_block({0: 2 ** 45 + 1, 1: 2 ** 40}, count=2)
        self.fault(seal(big_first[:-2]), 4, 0)
        big_last = value_block({0: 2 ** 40, 1: 2 ** 45 + 1}, count=2)
        for length in range(22, len(big_last), 2):
            self.fault(seal(big_last[:length]), 3, length)

    def test_a_number_that_is_not_of_the_bits(self):
        for rest, value in ((128, 256), (-129, 257), (2 ** 44, 2 ** 45)):
            self.fault(value_block({3: value}, count=5), 4, 3)
        for value, number in ((254, 127), (255, -128)):
            self.assertEqual(last(read(value_block({3: value}, count=4))), [0, 1, 4, 0, 0, 0, number])

    def test_a_number_that_is_not_of_the_bits_with_bits_cut(self):
        self.assertEqual(last(read(value_block({0: 14, 1: 15}, count=2, cut=4))), [0, 1, 2, 112, -128])
        self.fault(value_block({1: 16}, count=2, cut=4), 4, 1)
        self.fault(value_block({1: 17}, count=2, cut=4), 4, 1)

    def test_numbers_shown_are_told_by_the_least_place(self):
        self.fault(value_block({10: 256, 1: 256}, rows=2, count=6), 4, 1)
        self.fault(value_block({34: 256, 33: 256}, rows=2, count=18), 4, 33)
        # joined by 3: one number of the pair is out, the other is not
        way = [0, 0, 0, 0, 3]
        self.fault(value_block({0: 254, 1: 4}, rows=2, way=way), 4, 0)
        self.fault(value_block({0: 254, 1: 3}, rows=2, way=way), 4, 1)

    def test_a_value_ahead_of_the_end_and_of_numbers_shown(self):
        big = value_block({0: 256, 2: 2 ** 45 + 1}, count=3)
        self.fault(big, 4, 2)
        self.fault(seal(big + [0, 0]), 4, 2)


class EndFaults(FaultCase):
    def test_words_left(self):
        block = key_block()
        self.fault(seal(block + [0, 0]), 5, len(block) + 2)
        self.fault(seal(block + [9] * 20), 5, len(block) + 20)

    def test_a_state_that_is_not_65536_in_the_end(self):
        for lanes in (1, 4, 8, 16):
            for lane in range(lanes):
                for x in (65537, 2 ** 32 - 1, 131072):
                    states = [65536] * lanes
                    states[lane] = x
                    row = items_in(rests_items([[3, -4, 5]]), lanes, states)
                    self.fault(row_block(row, count=3, lanes=lanes), 5, 18 + len(row))

    def test_it_comes_ahead_of_numbers_shown(self):
        block = value_block({0: 256}, count=2)
        self.fault(block, 4, 0)
        self.fault(seal(block + [1, 1]), 5, len(block) + 2)

    def test_it_comes_behind_items_that_can_not_be_read(self):
        row = items_in(rests_items([[100, -100, 100]]), 1, [65537])
        self.fault(row_block(row[:-2], count=3), 3, 18 + len(row) - 2)

    def test_fewer_and_more_times_than_there_are(self):
        block = block_of(write([0, 0, 0]))
        self.fault(seal(with_byte(block, 8, 2)), 5, len(block))
        self.assertEqual(last(read(seal(with_byte(block, 8, 4))))[:2], [-8, 3])


class NothingLearnt(FaultCase):
    def test_filters_and_what_was_cut_wrong_go_on_as_if_nothing_came(self):
        asked = dict(rows=2, way=WAY, lanes=4, cut=3, shape=[100, -50, 20, 7])
        block = block_of(write(NUMBERS, **asked), write(NUMBERS, key=0, **asked))
        good_begin = block_of(write(NUMBERS, **asked))
        bad = [block[:5], with_byte(block, 13, block[13] ^ 1), seal(block[:-1]), seal(block[:18]), seal(block[:-2]),
               seal(block + [0, 0]), seal(good_begin + [0, 0]), value_block({0: 256, 5: 99}, rows=2, count=3, lanes=4, way=WAY)]
        plain = ask(write(NUMBERS, **asked), write(NUMBERS, key=0, **asked), cut_of(NUMBERS, key=0, **asked))
        for spoilt in bad:
            told = ask(write(NUMBERS, **asked), read(spoilt), write(NUMBERS, key=0, **asked), read(spoilt), head(spoilt),
                       cut_of(NUMBERS, key=0, **asked))
            self.assertIn(told[1][0], (-4, -8))
            self.assertEqual([told[0], told[2], told[5]], plain)

    def test_a_no_key_whose_numbers_do_not_fit_is_learnt_nothing_of(self):
        # Read behind another key than its own, the block's numbers run out of the bits.
        way = [1, 1, 3, 100, 0, 0]
        steep = block_of(write([0], way=way), write([127], key=0, way=way))
        told = ask(write([100], way=way), read(steep), write([5], key=0, way=way))
        self.assertEqual(told[1], [-8, 4, 0])
        self.assertEqual(told[2], last(write([100], way=way), write([5], key=0, way=way)))


class Items(unittest.TestCase):
    def test_the_items_made_here_are_those_of_the_document(self):
        self.assertEqual(number_items(3, 0), [("symbol", 3, 0)])
        self.assertEqual(number_items(3, 2), [("symbol", 3, 1), ("bits", 1, 1)])
        self.assertEqual(number_items(0, 2 ** 17 + 8), [("symbol", 0, 17), ("bits", 15, 9), ("bits", 2, 0)])


if __name__ == "__main__":
    unittest.main()
