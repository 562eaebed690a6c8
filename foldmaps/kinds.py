"""What kind of semigroup it is that has these products."""

from foldmaps.tables import BOTH, LEFT_AND_RIGHT

EITHER_ORDER = 1
DOES_NOTHING = 2
TAKES_ALL = 4
UNDONE = 8
UNDONE_ONCE = 16
AT_REST = 32
ALONE = 64
ONE_CLASS = 128
GROUP = 256


def kind(table):
    total = 0
    if table.rows == table.columns:
        total = total + EITHER_ORDER
    if len(idle_ones(table)) > 0:
        total = total + DOES_NOTHING
    if has_one_that_takes_all(table):
        total = total + TAKES_ALL
    if is_each_undone(table):
        total = total + UNDONE
    if is_each_undone_once(table):
        total = total + UNDONE_ONCE
    if is_each_at_rest(table):
        total = total + AT_REST
    if len(table.classes(LEFT_AND_RIGHT)) == len(table.rows):
        total = total + ALONE
    if len(table.classes(BOTH)) == 1:
        total = total + ONE_CLASS
    if is_group(table):
        total = total + GROUP
    return total


def idle_ones(table):
    still = list(range(len(table.rows)))
    return [at for at in still if table.rows[at] == still and table.columns[at] == still]


def has_one_that_takes_all(table):
    size = len(table.rows)
    return any([table.rows[at] == [at] * size and table.columns[at] == [at] * size for at in range(size)])


def is_each_undone(table):
    return all([at in table.itself_around_each(at) for at in range(len(table.rows))])


def is_each_undone_once(table):
    return all([len(table.undoers(at)) == 1 for at in range(len(table.rows))])


def is_each_at_rest(table):
    return all([table.rows[at][at] == at for at in range(len(table.rows))])


def is_group(table):
    return any([is_reached_by_each(table, idle) for idle in idle_ones(table)])


def is_reached_by_each(table, idle):
    return all([idle in row for row in table.rows])
