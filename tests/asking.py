"""What the tests share: writing calls as one list, and reading the answers apart."""

from foldmaps.maps import answers

NUMBERS = {
    "then": 1, "power": 2, "ends": 3, "rest": 4, "image": 5, "kernel": 6,
    "core": 7, "steps": 8, "undo": 9, "before": 10, "behind": 11, "alike": 12,
}
OF_ONE = ("ends", "rest", "image", "kernel", "core", "steps", "undo")
OF_TWO = ("then", "before", "behind", "alike")
HIGHEST = 18446744073709551615


def call(name, *values):
    """One call as the interface writes it: whole numbers are ints, maps are lists or tuples."""
    numbers = [value for value in values if isinstance(value, int)]
    rows = [value for value in values if not isinstance(value, int)]
    written = [NUMBERS[name], len(numbers), *numbers, len(rows)]
    for row in rows:
        written += [len(row), *row]
    return written


def line(*calls):
    return [number for one in calls for number in one]


def apart(told):
    """The answers of a list of calls, each as its own list."""
    parts = []
    at = 0
    while at < len(told):
        size = told[at]
        part = told[at + 1:at + 1 + size]
        if size < 1 or len(part) != size:
            raise AssertionError(f"the answers end amid one: {told}")
        parts.append(part)
        at += 1 + size
    return parts


def ask_all(calls):
    """The answers to any number of calls, asked in lists of at most 400 calls and 16000 numbers."""
    parts = []
    for at in range(0, len(calls), 400):
        asked = line(*calls[at:at + 400])
        if len(asked) > 16000:
            raise AssertionError("the test asks a longer list than the document allows")
        parts += apart(answers(asked))
    return parts


def ask(name, *values):
    parts = ask_all([call(name, *values)])
    if len(parts) != 1:
        raise AssertionError(f"one call, but {len(parts)} answers")
    return parts[0]
