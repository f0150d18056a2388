"""Promise 3, what's written is told to the byte: reckoned by hand, and by the document told a second time."""

import random
import unittest

from bitsound.cascade import RowFilter, StageFilter, join_pair, part_pair
from bitsound.heads import check_of
from bitsound.models import Bank, Model
from bitsound.packing import Packer
from bitsound.rests import model_number, rest_of, value_of
from bitsound.ways import RowWay, Stage
from tests.making import some_setting, some_shape, some_sound
from tests.reference import Reference, crc, items_in, rests_items, seal
from tests.telling import ask, block_of, last, write


class Check(unittest.TestCase):
    def test_known_checks(self):
        self.assertEqual(check_of([ord(sign) for sign in "123456789"]), 0xE3069283)
        self.assertEqual(check_of([0] * 32), 0x8A9136AA)
        self.assertEqual(check_of([255] * 32), 0x62A8AB43)
        self.assertEqual(check_of(list(range(32))), 0x46DD794E)
        self.assertEqual(check_of([]), 0)

    def test_the_other_check_is_the_same(self):
        for row in ([0] * 32, list(range(200)), [77]):
            self.assertEqual(crc(row), check_of(row))


class ByHand(unittest.TestCase):
    def row_of(self, numbers, **more):
        block = block_of(write(numbers, **more))
        return block[16 + 2 * more.get("rows", 1):]

    def test_the_head(self):
        block = block_of(write([0, 0, 0], bits=9, cut=3, lanes=4, way=[2, 2, 16, 1024, 0, 12, 8, 259, 1, 0]))
        self.assertEqual(block[:12], [76, 83, 1, 1, 9, 3, 4, 0, 3, 0, 0, 0])
        self.assertEqual(block[16:34], [2, 2, 16, 0, 0, 4, 0, 12, 0, 0, 8, 0, 3, 1, 1, 0, 0, 0])
        self.assertEqual(block, seal(block))

    def test_the_head_of_no_key_has_no_way(self):
        block = block_of(write([0]), write([0, 0], key=0))
        self.assertEqual(block[:12], [76, 83, 0, 1, 8, 0, 1, 0, 2, 0, 0, 0])
        self.assertEqual(len(block), 20)

    def test_rows_each_with_its_stages_then_the_joints(self):
        way = [1, 1, 5, 6, 0, 7, 2, 0, 3, 0, 0, 1, 2, 3, 1, 0, 2, 1]
        block = block_of(write([0] * 4, rows=4, way=way))
        self.assertEqual(block[16:42], [1, 1, 5, 0, 6, 0, 0, 7, 0, 0, 2, 0, 3, 0, 0, 1, 2, 0, 3, 0, 1, 0, 0, 0, 2, 1])

    def test_one_nought(self):
        # 65,536 by a share of 512 places from 0 on: 128 times 32,768.
        self.assertEqual(self.row_of([0]), [0, 0, 64, 0])

    def test_one_number_with_a_plain_bit(self):
        # 1 is the value 2: class 1, the bit 1. 65,536 becomes 147,456, that becomes 9,437,696.
        self.assertEqual(self.row_of([1]), [0, 2, 144, 0])

    def test_a_word_goes_out(self):
        # 16,386 is the value 32,772: class 15 and 15 plain bits of 5.
        self.assertEqual(self.row_of([16386], bits=16), [0, 30, 32, 0, 5, 0])

    def test_the_model_sees_each_symbol_where_there_is_one_lane(self):
        self.assertEqual(self.row_of([0, 0]), [240, 1, 229, 0])

    def test_within_a_group_nothing_is_seen(self):
        self.assertEqual(self.row_of([0, 0], lanes=4), [0, 0, 64, 0] * 2 + [0, 0, 1, 0] * 2)

    def test_a_whole_block(self):
        self.assertEqual(block_of(write([0])),
                         [76, 83, 1, 1, 8, 0, 1, 0, 1, 0, 0, 0, 139, 44, 187, 201, 0, 0, 0, 0, 64, 0])


class Models(unittest.TestCase):
    def test_at_first(self):
        self.assertEqual(Model().begins, [512 * i for i in range(65)])

    def test_the_rate(self):
        model = Model()
        rates = []
        for seen in range(200):
            rates.append(model.rate())
            model.see(1)
        self.assertEqual(rates, [2] * 2 + [3] * 4 + [4] * 8 + [5] * 16 + [6] * 170)

    def test_what_is_seen_moves_the_shares(self):
        model = Model()
        model.see(2)
        self.assertEqual(model.begins[:5], [0, 384, 768, (1536 * 3 + 32707) // 4, (2048 * 3 + 32708) // 4])
        self.assertEqual(model.begins[63:], [(63 * 512 * 3 + 32767) // 4, 32768])

    def test_every_share_keeps_a_place(self):
        for symbol in (0, 1, 31, 63):
            model = Model()
            for i in range(700):
                model.see(symbol)
            self.assertTrue(all(model.places(i) >= 1 for i in range(64)))
            self.assertEqual([model.begins[0], model.begins[64]], [0, 32768])
            for i in range(64):
                self.assertEqual(model.symbol_at(model.begins[i]), i)
                self.assertEqual(model.symbol_at(model.begins[i + 1] - 1), i)

    def test_seen_stays_within_its_bound(self):
        model = Model()
        model.seen = 65535
        model.see(5)
        self.assertEqual(model.seen, 65535)

    def test_a_group_is_seen_at_its_end(self):
        bank = Bank(4)
        for i in range(3):
            bank.pass_symbol(7, 0)
            self.assertEqual(bank.model_of(7).seen, 0)
        bank.pass_bits()
        self.assertEqual(bank.model_of(7).seen, 3)

    def test_pieces_of_plain_bits(self):
        packer = Packer(1)
        packer.put_number(0, 2 ** 32 + 2 ** 15 * 3 + 5)
        # value + 1 is 2 ** 32 + 3 * 2 ** 15 + 6: 15 bits of 6, 15 bits of 3, 2 bits of 0
        self.assertEqual(packer.shares, [(512 * 32, 512), (6, 1), (3, 1), (0, 8192)])


class Rests(unittest.TestCase):
    def test_values(self):
        self.assertEqual([value_of(e) for e in (0, -1, 1, -2, 2, -2 ** 40)], [0, 1, 2, 3, 4, 2 ** 41 - 1])
        self.assertEqual([rest_of(value_of(e)) for e in range(-9, 9)], list(range(-9, 9)))

    def test_which_model(self):
        for total, k in ((0, 0), (15, 0), (16, 1), (31, 1), (32, 2), (63, 2), (64, 3), (16 * 2 ** 13, 14),
                         (16 * 2 ** 14 - 1, 14), (16 * 2 ** 14, 15), (16 * 2 ** 40, 15)):
            self.assertEqual(model_number(0, total), k)
            self.assertEqual(model_number(3, total), 48 + k)

    def test_chunks_rows_and_their_models(self):
        # In each chunk row after row; a row's model by the sum of its chunk before.
        first, second = [1] * 17, [0] * 17
        block = block_of(write(first + second, rows=2))
        items = [("symbol", 0, 1), ("bits", 1, 1)] * 16 + [("symbol", 16, 0)] * 16
        items += [("symbol", 2, 1), ("bits", 1, 1), ("symbol", 16, 0)]
        self.assertEqual(block[21:], items_in(items, 1))

    def test_a_chunk_before_counts_within_its_block_alone(self):
        blocks = [answer[2:] for answer in ask(write([100] * 16), write([1], key=0))]
        self.assertEqual(blocks[1][16:], items_in([("symbol", 0, 1), ("bits", 1, 1)], 1))


class Filters(unittest.TestCase):
    def rests(self, numbers, row_way, **more):
        row_filter = RowFilter(row_way)
        return [row_filter.onward(number) for number in numbers]

    def test_fixed(self):
        numbers = [5, 9, -2, 0]
        for fixed, rests in ((0, [5, 9, -2, 0]), (1, [5, 4, -11, 2]), (2, [5, -1, -15, 13]), (3, [5, -6, -14, 28])):
            self.assertEqual(self.rests(numbers, RowWay(fixed, [])), rests)

    def test_a_narrow_stage(self):
        self.assertEqual(self.rests([100] * 4, RowWay(0, [Stage(1, 1024, 0, 0)])), [100, 100, 97, 94])

    def test_a_narrow_stage_with_a_scale(self):
        # h is [-5 / 4] = -2; w is 1,024: [(4 * 1,024 * -2 + 16,384) / 32,768] = 0; then w is 2,048, 3,072, 4,096, 5,120:
        # [(-16,384 + 16,384) / 32,768] = 0, then below 0: -1.
        self.assertEqual(self.rests([-5] * 6, RowWay(0, [Stage(1, 1024, 0, 2)])), [-5, -5, -5, -5, -4, -4])

    def test_a_wide_stage(self):
        # w h is 1,024,000: [(1,024,000 + 32,768) / 65,536] = 16; then 2,048,000: 31.
        self.assertEqual(self.rests([1000] * 4, RowWay(0, [Stage(1, 1024, 1, 0)])), [1000, 1000, 984, 969])

    def test_rounding_of_half(self):
        stage = StageFilter(Stage(1, 1, 0, 0))
        stage.past = [1]
        for weight, foretold in ((16383, 0), (16384, 1), (-16384, 0), (-16385, -1)):
            stage.weights = [weight]
            self.assertEqual(stage.foretold(), foretold)
        wide = StageFilter(Stage(1, 1, 1, 0))
        wide.past = [1]
        for weight, foretold in ((32767, 0), (32768, 1), (-32768, 0), (-32769, -1)):
            wide.weights = [weight]
            self.assertEqual(wide.foretold(), foretold)

    def test_nothing_foretold_wrong_teaches_nothing(self):
        stage = StageFilter(Stage(2, 7, 0, 0))
        stage.past = [3, -3]
        self.assertEqual([stage.onward(0), stage.weights], [0, [0, 0]])

    def test_signs_teach(self):
        stage = StageFilter(Stage(3, 7, 0, 0))
        stage.past = [3, -3, 0]
        stage.onward(-1)
        self.assertEqual(stage.weights, [-7, 7, 0])
        self.assertEqual(stage.past, [-1, 3, -3])

    def test_joints(self):
        wanted = {0: (5, -8), 1: (5, -13), 2: (13, -8), 3: (-2, 13)}
        for joint, both in wanted.items():
            self.assertEqual(join_pair(joint, 5, -8), both)
            for left in range(-5, 6):
                for right in range(-5, 6):
                    self.assertEqual(part_pair(joint, *join_pair(joint, left, right)), (left, right))

    def test_pairs_stages_and_fixed_together_in_a_block(self):
        # joined by 1: 10 10 10, then 1 2 3 less these; the second row by its first difference
        block = block_of(write([10, 10, 10, 11, 12, 13], rows=2, way=[0, 0, 1, 0, 1]))
        self.assertEqual(block[21:], items_in(rests_items([[10, 10, 10], [1, 1, 1]]), 1))

    def test_the_third_row_of_three_is_joined_with_none(self):
        block = block_of(write([10, 20, 30], rows=3, way=[0] * 6 + [2]))
        self.assertEqual(block[23:], items_in(rests_items([[-10], [20], [30]]), 1))


class AsToldTwice(unittest.TestCase):
    def test_blocks_of_all_sorts(self):
        for seed in range(120):
            dice = random.Random(seed)
            bits, cut, lanes, rows, way = some_setting(dice)
            reference = Reference()
            calls, wanted = [], []
            for key in (1, 0, 0):
                count = dice.choice([1, 2, 15, 16, 17, 40, 64])
                call = ("write", key, bits, cut, lanes, rows, way, some_shape(dice), some_sound(dice, bits, rows, count))
                calls.append(call)
                wanted.append(reference.write(*call[1:]))
            with self.subTest(seed=seed):
                self.assertEqual(ask(*calls), wanted)

    def test_lanes_change_the_bytes_but_never_the_items(self):
        numbers = [(i * 37) % 256 - 128 for i in range(60)]
        rests = rests_items([numbers])
        for lanes in (1, 4, 8, 16):
            self.assertEqual(block_of(write(numbers, lanes=lanes))[18:], items_in(rests, lanes))
        self.assertEqual(last(write(numbers, lanes=2)), [-1])


if __name__ == "__main__":
    unittest.main()
