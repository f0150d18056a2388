"""The five calls, told in one list and answered in one list."""

from bitsound.asking import asked_of
from bitsound.heads import head_of
from bitsound.learning import basis_for_asked, basis_for_head, block_of, rows_kept, rows_shown, shown_of
from bitsound.refusals import BlockFault, NotAllowed, NotLearnt

OPEN = 0
HEAD = 1
READ = 2
WRITE = 3


def one_behind_another(rows):
    numbers = []
    for row in rows:
        numbers.extend(row)
    return numbers


class Sound:
    def __init__(self):
        self.learnt = None

    def begin_anew(self):
        self.learnt = None
        return [0]

    def tell_head(self, block):
        head = head_of(block)
        return [0, head.key, head.rows, head.bits, head.cut, head.lanes, head.times]

    def read_block(self, block):
        head = head_of(block)
        learnt = basis_for_head(self.learnt, head)
        numbers = one_behind_another(shown_of(learnt, block, head))
        self.learnt = learnt
        return [0, head.rows, len(numbers)] + numbers

    def write_block(self, asked):
        learnt = basis_for_asked(self.learnt, asked)
        block = block_of(learnt, asked)
        self.learnt = learnt
        return [0, len(block)] + block

    def tell_cut(self, asked):
        kept = rows_kept(basis_for_asked(self.learnt, asked), asked)
        numbers = one_behind_another(rows_shown(kept, asked.frame.cut))
        return [0, len(numbers)] + numbers


# The calls' numbers one behind another; slices are copies, so the list stays as it was.
class Line:
    def __init__(self, calls):
        self.calls = calls
        self.place = 0

    def has_more(self):
        return self.place < len(self.calls)

    def take_numbers(self, how_many):
        begin = self.place
        self.place = begin + how_many
        return self.calls[begin:self.place]

    def take_number(self):
        return self.take_numbers(1)[0]

    def take_row(self):
        return self.take_numbers(self.take_number())


# All of a call is taken before it is looked at: the call behind it begins there, refused or not.
def answer_asking(sound, line, call):
    settings = line.take_numbers(5)
    told = line.take_row()
    shape = line.take_row()
    numbers = line.take_row()
    asked = asked_of(settings, told, shape, numbers)
    if call == WRITE:
        return sound.write_block(asked)
    return sound.tell_cut(asked)


def answer_call(sound, line):
    call = line.take_number()
    if call == OPEN:
        return sound.begin_anew()
    if call == HEAD:
        return sound.tell_head(line.take_row())
    if call == READ:
        return sound.read_block(line.take_row())
    return answer_asking(sound, line, call)


def answer_or_refusal(sound, line):
    try:
        return answer_call(sound, line)
    except NotAllowed:
        return [-1]
    except NotLearnt:
        return [-4]
    except BlockFault as e:
        return [-8, e.kind, e.place]


def answers(calls):
    line = Line(calls)
    sound = Sound()
    answered = []
    while line.has_more():
        answer = answer_or_refusal(sound, line)
        answered.append(len(answer))
        answered.extend(answer)
    return answered
