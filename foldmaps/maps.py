"""The calls of one list, one behind another, and their answers."""

from foldmaps.kinds import kind
from foldmaps.points import core, ends, image, is_map, kernel, power, rest, steps, then
from foldmaps.semigroups import made_of
from foldmaps.solving import alike, before, behind, undo

THEN = 1
POWER = 2
ENDS = 3
REST = 4
IMAGE = 5
KERNEL = 6
CORE = 7
STEPS = 8
UNDO = 9
BEFORE = 10
BEHIND = 11
ALIKE = 12
MAKE = 13
NTH = 14
PLACE = 15
WORD = 16
PRODUCT = 17
CLASS_OF = 18
CLASSES = 19
ABOVE = 20
KIND = 21
UNDOES = 22
LEAST = 23

DONE = 0
WRONG = -1
NONE_FOUND = -2
TOO_MANY = -3
NOT_MADE = -9

TOO_OFTEN = 4294967296
MOST_GENERATORS = 6
HOW_MANY_BELOWS = 3
HOW_MANY_CLASSINGS = 4


class UnknownCall(ValueError):
    pass


class Reader:
    def __init__(self, calls):
        self.calls = calls
        self.at = 0

    def has_more(self):
        return self.at < len(self.calls)

    def take_number(self):
        number = self.calls[self.at]
        self.at = self.at + 1
        return number

    def take_row(self):
        size = self.take_number()
        row = self.calls[self.at:self.at + size]
        self.at = self.at + size
        return row

    def take_rows(self):
        size = self.take_number()
        return [self.take_row() for place in range(size)]


class Book:
    def __init__(self):
        self.made = None

    def answer(self, call, numbers, rows):
        if call < THEN or call > LEAST:
            raise UnknownCall(f"call {call} is not answered")
        if call < MAKE:
            return answer_of_maps(call, numbers, rows)
        if call == MAKE:
            return self.make(rows)
        if self.made is None:
            return [NOT_MADE]
        return answer_of_semigroup(self.made, call, numbers, rows)

    def make(self, rows):
        if len(rows) < 1 or len(rows) > MOST_GENERATORS or not are_maps_of_one_size(rows):
            return [WRONG]
        made = made_of(rows)
        if made is None:
            return [TOO_MANY]
        self.made = made
        return [DONE, len(made.maps)]


def answers(calls):
    reader = Reader(calls)
    book = Book()
    told = []
    while reader.has_more():
        call = reader.take_number()
        numbers = reader.take_row()
        rows = reader.take_rows()
        answer = book.answer(call, numbers, rows)
        told.append(len(answer))
        told.extend(answer)
    return told


def answer_of_maps(call, numbers, rows):
    if call == POWER and numbers[0] >= TOO_OFTEN:
        return [WRONG]
    if not are_maps_of_one_size(rows):
        return [WRONG]
    return answer_with(found_by(call, numbers, rows))


def answer_of_semigroup(made, call, numbers, rows):
    if not are_maps_of_one_size(rows):
        return [WRONG]
    limits = limits_of(call, len(made.maps))
    if any([numbers[at] >= limits[at] for at in range(len(limits))]):
        return [WRONG]
    return answer_with(found_in(made, call, numbers, rows))


def answer_with(found):
    if found is None:
        return [NONE_FOUND]
    return [DONE] + found


def are_maps_of_one_size(rows):
    return all([is_map(row) and len(row) == len(rows[0]) for row in rows])


def found_by(call, numbers, rows):
    if call == POWER:
        return power(numbers[0], rows[0])
    if len(rows) == 2:
        return found_of_two(call, rows[0], rows[1])
    return found_of_one(call, rows[0])


def found_of_two(call, a, b):
    if call == THEN:
        return then(a, b)
    if call == BEFORE:
        return before(a, b)
    if call == BEHIND:
        return behind(a, b)
    return alike(a, b)


def found_of_one(call, a):
    if call == ENDS:
        return ends(a)
    if call == REST:
        return rest(a)
    if call == IMAGE:
        return image(a)
    if call == KERNEL:
        return kernel(a)
    if call == CORE:
        return core(a)
    if call == STEPS:
        return steps(a)
    return undo(a)


def limits_of(call, size):
    # Where undoes starts and how many points least allows are no elements' numbers: any will do.
    if call == NTH or call == WORD or call == UNDOES:
        return [size]
    if call == PRODUCT:
        return [size, size]
    if call == CLASS_OF:
        return [HOW_MANY_CLASSINGS, size]
    if call == CLASSES:
        return [HOW_MANY_CLASSINGS]
    if call == ABOVE:
        return [HOW_MANY_BELOWS, size, size]
    return []


def found_in(made, call, numbers, rows):
    if call == NTH:
        return made.maps[numbers[0]]
    if call == PLACE:
        return made.place(rows[0])
    if call == WORD:
        return made.words[numbers[0]]
    if call == LEAST:
        return made.least(numbers[0])
    return found_by_products(made.table(), call, numbers)


def found_by_products(table, call, numbers):
    if call == PRODUCT:
        return [table.rows[numbers[0]][numbers[1]]]
    if call == CLASS_OF:
        return [table.class_of(numbers[0], numbers[1])]
    if call == CLASSES:
        return table.classes(numbers[0])
    if call == ABOVE:
        return [table.above(numbers[0], numbers[1], numbers[2])]
    if call == KIND:
        return [kind(table)]
    return table.undoes(numbers[0], numbers[1])
