"""Promise 6: weights and held inputs stay within their bounds, and so does what's cut wrong."""

import random
import unittest

from bitsound.cascade import RowFilter, StageFilter
from bitsound.shaping import Cutter
from bitsound.ways import Frame, RowWay, Stage
from tests.reference import Reference, filtered
from tests.telling import ask, read, write


class StageBounds(unittest.TestCase):
    def run_to(self, stage, inputs, most_weight, most_past):
        stage_filter = StageFilter(stage)
        greatest = [0, 0]
        for u in inputs:
            stage_filter.onward(u)
            self.assertTrue(all(-most_weight <= w <= most_weight for w in stage_filter.weights))
            self.assertTrue(all(-most_past <= h <= most_past for h in stage_filter.past))
            self.assertEqual([len(stage_filter.weights), len(stage_filter.past)], [stage.taps] * 2)
            greatest = [max(greatest[0], *[abs(w) for w in stage_filter.weights]),
                        max(greatest[1], *[abs(h) for h in stage_filter.past])]
        return greatest

    def test_narrow_comes_to_its_bounds_and_no_further(self):
        for sign in (1, -1):
            for taps in (1, 16):
                inputs = [sign ** i * 2 ** 40 for i in range(80)]
                self.assertEqual(self.run_to(Stage(taps, 1024, 0, 0), inputs, 32767, 32767), [32767, 32767])

    def test_wide_comes_to_its_bounds_and_no_further(self):
        for sign in (1, -1):
            for taps in (1, 8):
                inputs = [sign ** i * 2 ** 60 for i in range(1100)]
                self.assertEqual(self.run_to(Stage(taps, 1024, 1, 0), inputs, 2 ** 20, 2 ** 30), [2 ** 20, 2 ** 30])

    def test_inputs_are_held_by_the_step(self):
        for u, scale, h in ((32767, 0, 32767), (32768, 0, 32767), (-32767, 0, -32767), (-32768, 0, -32767), (-1, 12, -1),
                            (4095, 12, 0), (4096, 12, 1), (32767 * 4096 + 4095, 12, 32767), (32768 * 4096, 12, 32767),
                            (-32768 * 4096, 12, -32767), (-4097, 12, -2)):
            stage_filter = StageFilter(Stage(2, 1, 0, scale))
            stage_filter.onward(u)
            self.assertEqual(stage_filter.past, [h, 0])
        for u, h in ((2 ** 30, 2 ** 30), (2 ** 30 + 1, 2 ** 30), (-2 ** 30, -2 ** 30), (-2 ** 30 - 1, -2 ** 30)):
            stage_filter = StageFilter(Stage(1, 1, 1, 0))
            stage_filter.onward(u)
            self.assertEqual(stage_filter.past, [h])

    def test_weights_are_held_by_the_step(self):
        for kind, most in ((0, 32767), (1, 2 ** 20)):
            for gain in (1, 1000):
                stage_filter = StageFilter(Stage(2, gain, kind, 0))
                stage_filter.weights = [most, -most]
                stage_filter.past = [1, -1]
                stage_filter.onward(10 ** 9)
                self.assertEqual(stage_filter.weights, [most, -most])
                stage_filter.weights = [-most, most]
                stage_filter.past = [1, -1]
                stage_filter.onward(-10 ** 9)
                self.assertEqual(stage_filter.weights, [-most, most])

    def test_forward_and_backward_learn_alike(self):
        for seed in range(60):
            dice = random.Random(seed)
            stages = [Stage(dice.randint(1, 16), dice.randint(1, 1024), 0, dice.randint(0, 12)),
                      Stage(dice.randint(1, 8), dice.randint(1, 1024), 1, 0)]
            row_way = RowWay(dice.randrange(4), stages[::dice.choice([1, -1])])
            one, other = RowFilter(row_way), RowFilter(row_way)
            numbers = [dice.randint(-2 ** 24, 2 ** 24) for i in range(200)]
            rests = [one.onward(number) for number in numbers]
            self.assertEqual([other.backward(rest) for rest in rests], numbers)
            for a, b in zip(one.stage_filters, other.stage_filters):
                self.assertEqual([a.weights, a.past], [b.weights, b.past])
            self.assertEqual(one.before, other.before)
            told = tuple((s.taps, s.gain, s.kind, s.scale) for s in row_way.stages)
            self.assertEqual(rests, filtered((row_way.fixed, told), numbers))

    def test_a_twin_goes_its_own_way(self):
        row_filter = RowFilter(RowWay(2, [Stage(3, 9, 0, 0)]))
        for number in (5, 7, -9, 100):
            row_filter.onward(number)
        twin = row_filter.twin()
        kept = [list(row_filter.before), list(row_filter.stage_filters[0].weights), list(row_filter.stage_filters[0].past)]
        for number in (50, -70, 90):
            twin.onward(number)
        self.assertEqual(kept, [row_filter.before, row_filter.stage_filters[0].weights, row_filter.stage_filters[0].past])


class CutBounds(unittest.TestCase):
    def test_what_is_cut_wrong_is_held(self):
        for part in (127, -128):
            cutter = Cutter(Frame(24, 23, 1, None), [part] * 4, [0] * 4)
            greatest = 0
            for i in range(100):
                y = cutter.keep(-8388608 if i % 2 else 8388607)
                self.assertIn(y, (-1, 0))
                greatest = max(greatest, *[abs(error) for error in cutter.errors])
            self.assertEqual(greatest, 2 ** 31 - 1)
            self.assertEqual(len(cutter.errors), 4)


class LongBlocks(unittest.TestCase):
    def test_at_the_bounds_blocks_come_back_all_the_same(self):
        for kind, scale in ((0, 0), (0, 12), (1, 0)):
            way = [3, 2, 8, 1024, kind, scale, 8, 1024, kind, scale]
            rows = [[8388607 if (t // 3 + i) % 2 else -8388608 for t in range(64)] for i in range(25)]
            calls = [write(row, key=int(i == 0), bits=24, lanes=8, way=way) for i, row in enumerate(rows)]
            blocks = [answer[2:] for answer in ask(*calls)]
            self.assertEqual([answer[3:] for answer in ask(*[read(block) for block in blocks])], rows)

    def test_a_wide_weight_at_its_bound_is_written_as_told(self):
        way = [0, 1, 1, 1024, 1, 0]
        rows = [[8388607] * 64 for i in range(18)]
        calls = [write(row, key=int(i == 0), bits=24, lanes=8, way=way) for i, row in enumerate(rows)]
        blocks = ask(*calls)
        reference = Reference()
        self.assertEqual(blocks, [reference.write(*call[1:]) for call in calls])
        self.assertEqual([answer[3:] for answer in ask(*[read(answer[2:]) for answer in blocks])], rows)


if __name__ == "__main__":
    unittest.main()
