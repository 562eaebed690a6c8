"""The calls of one list, one behind another, and their answers."""

from foldmaps.points import core, ends, image, is_map, kernel, power, rest, steps, then
from foldmaps.solving import alike, before, behind, undo

THEN = 1
POWER = 2
ENDS = 3
REST = 4
IMAGE = 5
KERNEL = 6
CORE = 7
STEPS = 8
UNDO = 9
BEFORE = 10
BEHIND = 11
ALIKE = 12

DONE = 0
WRONG = -1
NONE_FOUND = -2

TOO_OFTEN = 4294967296


class UnknownCall(ValueError):
    pass


class Reader:
    def __init__(self, calls):
        self.calls = calls
        self.at = 0

    def has_more(self):
        return self.at < len(self.calls)

    def take_number(self):
        number = self.calls[self.at]
        self.at = self.at + 1
        return number

    def take_row(self):
        size = self.take_number()
        row = self.calls[self.at:self.at + size]
        self.at = self.at + size
        return row

    def take_rows(self):
        size = self.take_number()
        return [self.take_row() for place in range(size)]


def answers(calls):
    reader = Reader(calls)
    told = []
    while reader.has_more():
        call = reader.take_number()
        numbers = reader.take_row()
        rows = reader.take_rows()
        answer = answer_of(call, numbers, rows)
        told.append(len(answer))
        told.extend(answer)
    return told


def answer_of(call, numbers, rows):
    if call < THEN or call > ALIKE:
        raise UnknownCall(f"call {call} is not answered")
    if call == POWER and numbers[0] >= TOO_OFTEN:
        return [WRONG]
    if not are_maps_of_one_size(rows):
        return [WRONG]
    found = found_by(call, numbers, rows)
    if found is None:
        return [NONE_FOUND]
    return [DONE] + found


def are_maps_of_one_size(rows):
    return all([is_map(row) and len(row) == len(rows[0]) for row in rows])


def found_by(call, numbers, rows):
    if call == POWER:
        return power(numbers[0], rows[0])
    if len(rows) == 2:
        return found_of_two(call, rows[0], rows[1])
    return found_of_one(call, rows[0])


def found_of_two(call, a, b):
    if call == THEN:
        return then(a, b)
    if call == BEFORE:
        return before(a, b)
    if call == BEHIND:
        return behind(a, b)
    return alike(a, b)


def found_of_one(call, a):
    if call == ENDS:
        return ends(a)
    if call == REST:
        return rest(a)
    if call == IMAGE:
        return image(a)
    if call == KERNEL:
        return kernel(a)
    if call == CORE:
        return core(a)
    if call == STEPS:
        return steps(a)
    return undo(a)
