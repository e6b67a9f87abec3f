"""Views: which lists of steps are views, what a view shows of a table, and how it is written back.

A table is a list of rows by rising keys; a row is a tuple of five numbers,
the key first, so that a column's number is its index.
"""

KEEP = 0
HIDE = 1
SHIFT = 2

LESS = 0
SAME = 1
MORE = 2
OTHER = 3

LAST_COLUMN = 4
MOST_STEPS = 8
NUMBERS_OF_A_STEP = 4

# 2^32: every number in a row is below it.
MODULUS = 4294967296


class NotShowable(ValueError):
    pass


class KeyTaken(ValueError):
    pass


class Step:
    def __init__(self, kind, col, how, value):
        self.kind = kind
        self.col = col
        self.how = how
        self.value = value


def step_at(numbers, place):
    return Step(numbers[place], numbers[place + 1], numbers[place + 2], numbers[place + 3])


def steps_of(numbers):
    return [step_at(numbers, place) for place in range(0, len(numbers), NUMBERS_OF_A_STEP)]


def is_step(step):
    if step.kind == KEEP:
        return step.col <= LAST_COLUMN and step.how <= OTHER
    if step.kind == HIDE or step.kind == SHIFT:
        # The key is neither hidden nor shifted: a written row is found again by it.
        return 1 <= step.col and step.col <= LAST_COLUMN and step.how == 0
    return False


def is_view(steps):
    return len(steps) <= MOST_STEPS and all([is_step(step) for step in steps])


def keeps(step, row):
    number = row[step.col]
    if step.how == LESS:
        return number < step.value
    if step.how == SAME:
        return number == step.value
    if step.how == MORE:
        return number > step.value
    return number != step.value


def with_number(row, col, number):
    return row[:col] + (number,) + row[col + 1:]


def shown_by_step(rows, step):
    if step.kind == KEEP:
        return [row for row in rows if keeps(step, row)]
    if step.kind == HIDE:
        return [with_number(row, step.col, 0) for row in rows]
    return [with_number(row, step.col, (row[step.col] + step.value) % MODULUS) for row in rows]


def shown(rows, steps):
    # A copy, so that a view without steps doesn't give away the table itself.
    seen = list(rows)
    for step in steps:
        seen = shown_by_step(seen, step)
    return seen


def key_of(row):
    return row[0]


def by_rising_keys(rows):
    return sorted(rows, key=key_of)


def by_key(rows):
    return dict([(key_of(row), row) for row in rows])


def without_key(rows, key):
    return [row for row in rows if key_of(row) != key]


def with_row(rows, row):
    return by_rising_keys(without_key(rows, key_of(row)) + [row])


def written_by_keep(beneath, step, rows):
    # Every row is looked at for this before any key is: the first refusal is the one that's told.
    if not all([keeps(step, row) for row in rows]):
        raise NotShowable("a row is not one that is kept")
    left_out = [row for row in beneath if not keeps(step, row)]
    taken = by_key(left_out)
    if any([key_of(row) in taken for row in rows]):
        raise KeyTaken("a key is one of a row that is not kept")
    return by_rising_keys(rows + left_out)


def number_beneath(there, step, key):
    if key in there:
        return there[key][step.col]
    return step.value


def written_by_hide(beneath, step, rows):
    if any([row[step.col] != 0 for row in rows]):
        raise NotShowable("a row has something else than 0 where it is hidden")
    there = by_key(beneath)
    return [with_number(row, step.col, number_beneath(there, step, key_of(row))) for row in rows]


def written_by_step(beneath, step, rows):
    if step.kind == KEEP:
        return written_by_keep(beneath, step, rows)
    if step.kind == HIDE:
        return written_by_hide(beneath, step, rows)
    return [with_number(row, step.col, (row[step.col] - step.value) % MODULUS) for row in rows]


def tables_beneath(rows, steps):
    tables = []
    seen = list(rows)
    for step in steps:
        tables.append(seen)
        seen = shown_by_step(seen, step)
    return tables


def written_back(table, steps, rows):
    """The table, once the rows are what the view shows of it."""
    tables = tables_beneath(table, steps)
    written = list(rows)
    for place in range(len(steps) - 1, -1, -1):
        written = written_by_step(tables[place], steps[place], written)
    return written
