"""What the tests share: writing calls as one list, and reading the answers apart."""

from foldmaps.maps import answers

NUMBERS = {
    "then": 1, "power": 2, "ends": 3, "rest": 4, "image": 5, "kernel": 6,
    "core": 7, "steps": 8, "undo": 9, "before": 10, "behind": 11, "alike": 12,
    "make": 13, "nth": 14, "place": 15, "word": 16, "product": 17, "class_of": 18, "classes": 19, "above": 20,
    "kind": 21, "undoes": 22, "least": 23,
}
OF_ONE = ("ends", "rest", "image", "kernel", "core", "steps", "undo")
OF_TWO = ("then", "before", "behind", "alike")
HIGHEST = 18446744073709551615

# Generators of near 100 elements, by how many: of 2 to 6 generators, of 4 to 10 points, with short and long words.
NEAR_100 = (
    (95, [[1, 3, 3, 0, 0, 6, 6, 3], [1, 4, 6, 0, 4, 2, 6, 6]]),
    (96, [[0, 3, 4, 2, 1], [1, 4, 2, 4, 4]]),
    (97, [[8, 1, 2, 0, 4, 5, 6, 8, 8], [3, 1, 2, 3, 2, 5, 6, 7, 8], [0, 1, 7, 3, 4, 5, 6, 5, 8],
          [0, 1, 2, 3, 4, 5, 6, 7, 8]]),
    (98, [[0, 3, 2, 3, 4], [0, 0, 2, 3, 4], [2, 1, 2, 3, 4], [3, 1, 2, 3, 3], [4, 1, 2, 3, 0], [0, 1, 2, 2, 4]]),
    (99, [[3, 1, 2, 2], [3, 1, 3, 2], [3, 0, 0, 1], [2, 1, 2, 0]]),
    (100, [[3, 5, 4, 1, 3, 3, 2], [0, 6, 0, 4, 4, 6, 4]]),
    (100, [[3, 0, 2, 1], [3, 1, 0, 3], [2, 3, 2, 3]]),
    # Ten points: two pentagons turned and turned over; five folds beside a round of three; folds to one side.
    (100, [[1, 2, 3, 4, 0, 5, 6, 7, 8, 9], [0, 4, 3, 2, 1, 5, 6, 7, 8, 9], [0, 1, 2, 3, 4, 6, 7, 8, 9, 5],
           [0, 1, 2, 3, 4, 5, 9, 8, 7, 6]]),
    (96, [[0, 0, 2, 3, 4, 5, 6, 7, 8, 9], [0, 1, 0, 3, 4, 5, 6, 7, 8, 9], [0, 1, 2, 0, 4, 5, 6, 7, 8, 9],
          [0, 1, 2, 3, 0, 5, 6, 7, 8, 9], [0, 1, 2, 3, 4, 0, 6, 7, 8, 9], [0, 1, 2, 3, 4, 5, 7, 8, 6, 9]]),
    (95, [[0, 1, 1, 0, 3, 2, 3, 7, 4, 0], [0, 1, 1, 0, 0, 4, 1, 7, 8, 0], [0, 0, 1, 0, 3, 4, 2, 2, 0, 0],
          [0, 0, 1, 3, 3, 5, 3, 6, 6, 3], [0, 0, 0, 2, 3, 4, 2, 6, 6, 6]]),
)
JUST_OVER_100 = (
    (101, [[1, 0, 5, 1, 1, 0], [3, 1, 3, 2, 3, 2]]),
    (101, [[6, 1, 2, 3, 4, 5, 0, 7], [3, 1, 6, 3, 6, 5, 6, 7], [0, 1, 2, 3, 4, 5, 6, 0], [0, 1, 7, 3, 4, 5, 6, 2]]),
    (102, [[1, 0, 3, 2], [0, 2, 3, 0], [3, 3, 1, 2], [2, 2, 2, 1], [1, 2, 2, 3]]),
    (103, [[0, 0, 2, 3], [2, 1, 3, 1], [0, 2, 2, 0], [0, 2, 2, 3], [0, 1, 2, 1]]),
)


def call(name, *values):
    """One call as the interface writes it: whole numbers are ints, maps are lists or tuples."""
    numbers = [value for value in values if isinstance(value, int)]
    rows = [value for value in values if not isinstance(value, int)]
    written = [NUMBERS[name], len(numbers), *numbers, len(rows)]
    for row in rows:
        written += [len(row), *row]
    return written


def line(*calls):
    return [number for one in calls for number in one]


def apart(told):
    """The answers of a list of calls, each as its own list."""
    parts = []
    at = 0
    while at < len(told):
        size = told[at]
        part = told[at + 1:at + 1 + size]
        if size < 1 or len(part) != size:
            raise AssertionError(f"the answers end amid one: {told}")
        parts.append(part)
        at += 1 + size
    return parts


def ask_all(calls):
    """The answers to any number of calls, asked in lists of at most 400 calls and 16000 numbers."""
    parts = []
    for at in range(0, len(calls), 400):
        asked = line(*calls[at:at + 400])
        if len(asked) > 16000:
            raise AssertionError("the test asks a longer list than the document allows")
        parts += apart(answers(asked))
    return parts


def ask(name, *values):
    parts = ask_all([call(name, *values)])
    if len(parts) != 1:
        raise AssertionError(f"one call, but {len(parts)} answers")
    return parts[0]


def ask_made(generators, calls):
    """The answers to calls about one semigroup, which is made anew at the beginning of each list."""
    parts = []
    for at in range(0, len(calls), 399):
        parts += ask_all([call("make", *generators), *calls[at:at + 399]])[1:]
    return parts


def numbers_from(seed):
    """A row of numbers without end that look mixed and are the same each time."""
    state = seed
    while True:
        state = (state * 6364136223846793005 + 1442695040888963407) % 2 ** 64
        yield state >> 33


def mixed_map(mixed, size=10):
    return [next(mixed) % size for each in range(size)]
