"""Views: which lists of steps are views, and what a view shows of a table.

A table is a list of rows by rising keys; a row is a tuple of five numbers,
the key first, so that a column's number is its index.
"""

KEEP = 0
HIDE = 1
SHIFT = 2

LESS = 0
SAME = 1
MORE = 2
OTHER = 3

LAST_COLUMN = 4
MOST_STEPS = 8
NUMBERS_OF_A_STEP = 4

# 2^32: every number in a row is below it.
MODULUS = 4294967296


class Step:
    def __init__(self, kind, col, how, value):
        self.kind = kind
        self.col = col
        self.how = how
        self.value = value


def step_at(numbers, place):
    return Step(numbers[place], numbers[place + 1], numbers[place + 2], numbers[place + 3])


def steps_of(numbers):
    return [step_at(numbers, place) for place in range(0, len(numbers), NUMBERS_OF_A_STEP)]


def is_step(step):
    if step.kind == KEEP:
        return step.col <= LAST_COLUMN and step.how <= OTHER
    if step.kind == HIDE or step.kind == SHIFT:
        # The key is neither hidden nor shifted: a written row is found again by it.
        return 1 <= step.col and step.col <= LAST_COLUMN and step.how == 0
    return False


def is_view(steps):
    return len(steps) <= MOST_STEPS and all([is_step(step) for step in steps])


def keeps(step, row):
    number = row[step.col]
    if step.how == LESS:
        return number < step.value
    if step.how == SAME:
        return number == step.value
    if step.how == MORE:
        return number > step.value
    return number != step.value


def with_number(row, col, number):
    return row[:col] + (number,) + row[col + 1:]


def shown_by_step(rows, step):
    if step.kind == KEEP:
        return [row for row in rows if keeps(step, row)]
    if step.kind == HIDE:
        return [with_number(row, step.col, 0) for row in rows]
    return [with_number(row, step.col, (row[step.col] + step.value) % MODULUS) for row in rows]


def shown(rows, steps):
    # A copy, so that a view without steps doesn't give away the table itself.
    seen = list(rows)
    for step in steps:
        seen = shown_by_step(seen, step)
    return seen
