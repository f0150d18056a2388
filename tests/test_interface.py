"""How calls are told in one list and how answers are, and what is said behind the interface."""

import unittest

from bitsound.blocks import answers
from tests.telling import ask, block_of, cut_of, flat, head, last, read, write

WAY = [1, 1, 4, 32, 0, 2, 2, 1, 3, 5, 1, 0, 3]
SOUND = [10, 20, 30, 40, 50, -1, -2, -3, -4, -5]


def setting(**more):
    return dict(dict(bits=12, cut=2, lanes=4, rows=2, way=WAY, shape=[4, -2, 1, 0]), **more)


class Answers(unittest.TestCase):
    def test_a_single_call(self):
        self.assertEqual(answers([0]), [1, 0])

    def test_each_call_and_how_many_numbers_it_answers(self):
        block = block_of(write(SOUND, **setting()))
        told = answers(flat([("open",), write(SOUND, **setting()), head(block), read(block), cut_of(SOUND, **setting())]))
        shown = last(cut_of(SOUND, **setting()))[2:]
        wanted = [1, 0]
        wanted += [2 + len(block), 0, len(block)] + block
        wanted += [7, 0, 1, 2, 12, 2, 4, 5]
        wanted += [13, 0, 2, 10] + shown
        wanted += [12, 0, 10] + shown
        self.assertEqual(told, wanted)

    def test_refusals_are_their_number_alone_but_a_fault(self):
        self.assertEqual(answers(flat([write([]), write([1], key=0), head([]), read([76])])),
                         [1, -1, 1, -4, 3, -8, 1, 0, 3, -8, 1, 1])

    def test_a_refused_call_is_gone_through_to_its_end(self):
        calls = [write([], way=[3] * 60), ("open",), write([1] * 65), ("open",), read([5] * 40), ("open",),
                 write([1], rows=9007199254740991, way=[]), ("open",)]
        self.assertEqual([answer[0] for answer in ask(*calls)], [-1, 0, -1, 0, -8, 0, -1, 0])

    def test_two_hundred_calls(self):
        self.assertEqual(answers([0] * 200), [1, 0] * 200)
        mixed = [write([i % 100 - 50], key=int(i == 0)) for i in range(200)]
        told = ask(*mixed)
        self.assertEqual(len(told), 200)
        self.assertEqual({answer[0] for answer in told}, {0})

    def test_two_hundred_calls_are_read_again(self):
        way = [2, 1, 3, 9, 0, 0]
        blocks = [answer[2:] for answer in ask(*[write([i, -i], key=int(i == 0), way=way) for i in range(100)])]
        told = ask(*([read(block) for block in blocks] + [head(block) for block in blocks]))
        self.assertEqual(told[:100], [[0, 1, 2, i, -i] for i in range(100)])
        self.assertEqual(told[100:], [[0, int(i == 0), 1, 8, 0, 1, 2] for i in range(100)])

    def test_the_list_handed_in_stays_as_it_was(self):
        block = block_of(write(SOUND, **setting()))
        line = flat([write(SOUND, **setting()), write(SOUND, **setting(key=0)), read(block), cut_of(SOUND, **setting()),
                     head(block[:9]), write([], **setting())])
        before = list(line)
        answers(line)
        self.assertEqual(line, before)

    def test_the_list_is_never_changed_not_for_a_while_either(self):
        class Frozen(list):
            def refuse(self, *args):
                raise AssertionError("changed")

            append = extend = insert = pop = remove = clear = sort = reverse = refuse
            __setitem__ = __delitem__ = __iadd__ = __imul__ = refuse

        line = flat([write(SOUND, **setting()), write(SOUND, **setting(key=0)), head([76]), write([])])
        self.assertEqual(answers(Frozen(line)), answers(line))

    def test_nothing_is_kept_from_one_time_to_the_next(self):
        line = flat([write([5, 6]), write([7], key=0)])
        first = answers(line)
        self.assertEqual(answers(line), first)
        self.assertEqual(last(write([7], key=0)), [-4])

    def test_what_is_answered_is_new_each_time(self):
        first = answers([0])
        first.append(9)
        self.assertEqual(answers([0]), [1, 0])

    def test_answers_are_whole_numbers_in_a_list(self):
        block = block_of(write(SOUND, **setting()))
        told = answers(flat([write(SOUND, **setting()), read(block), head(block), cut_of(SOUND, **setting()), ("open",)]))
        self.assertIs(type(told), list)
        self.assertEqual({type(number) for number in told}, {int})

    def test_the_longest_list(self):
        numbers = [(i * 7919) % 16777216 - 8388608 for i in range(256)]
        way = [3, 2, 16, 1024, 0, 12, 8, 1024, 1, 0] * 4 + [3, 3]
        call = write(numbers, bits=24, lanes=16, rows=4, way=way)
        size = len(flat([call]))
        how_many = 19000 // size
        told = ask(*([call] + [write(numbers, key=0, bits=24, lanes=16, rows=4, way=way)] * (how_many - 1)))
        self.assertEqual([answer[0] for answer in told], [0] * how_many)
        block = told[0][2:]
        self.assertLess(len(block), 4000)
        self.assertEqual(last(read(block))[3:], numbers)


if __name__ == "__main__":
    unittest.main()
