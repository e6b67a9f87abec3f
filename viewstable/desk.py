"""The desk: one table, the views on it, its last changes, and the calls that are asked of it."""

from viewstable.views import KeyTaken, NotShowable
from viewstable.views import by_key, is_view, shown, steps_of, with_row, without_key, written_back

BEGIN = 0
VIEW = 1
MANY = 2
ROW = 3
FIND = 4
WRITE = 5
DROP = 6
BACK = 7

# The refusals' numbers.
ABSENT = -2
TAKEN = -17
INVALID = -22
FULL = -28
UNSHOWABLE = -33

# What write answers where it isn't refused.
ADDED = 1
REPLACED = 2

MOST_VIEWS = 16
MOST_ROWS = 256
MOST_CHANGES = 32


class UnknownCall(ValueError):
    pass


class Desk:
    def __init__(self):
        self.rows = []
        self.views = []
        self.changes = []

    def begin(self):
        self.rows = []
        self.views = []
        self.changes = []
        return [0]

    def view(self, numbers):
        steps = steps_of(numbers)
        # What is no view is told as such even where there is no room for one.
        if not is_view(steps):
            return [INVALID]
        if len(self.views) >= MOST_VIEWS:
            return [FULL]
        self.views.append(steps)
        return [len(self.views) - 1]

    def has_view(self, view_number):
        return view_number < len(self.views)

    def rows_through(self, view_number):
        return shown(self.rows, self.views[view_number])

    def many(self, view_number):
        if not self.has_view(view_number):
            return [INVALID]
        return [len(self.rows_through(view_number))]

    def row(self, view_number, k):
        if not self.has_view(view_number):
            return [INVALID]
        seen = self.rows_through(view_number)
        if len(seen) <= k:
            return [ABSENT]
        return [0] + list(seen[k])

    def find(self, view_number, key):
        if not self.has_view(view_number):
            return [INVALID]
        seen = by_key(self.rows_through(view_number))
        if key not in seen:
            return [ABSENT]
        return [0] + list(seen[key])

    def change_to(self, rows):
        if rows == self.rows:
            return
        # The table is replaced, never changed in place: what is kept here stays what it was.
        self.changes.append(self.rows)
        if len(self.changes) > MOST_CHANGES:
            self.changes.pop(0)
        self.rows = rows

    def write(self, view_number, row):
        if not self.has_view(view_number):
            return [INVALID]
        seen = self.rows_through(view_number)
        try:
            rows = written_back(self.rows, self.views[view_number], with_row(seen, row))
        except NotShowable:
            return [UNSHOWABLE]
        except KeyTaken:
            return [TAKEN]
        # A view never shows more rows than the table has: this holds for what would be shown, too.
        if len(rows) > MOST_ROWS:
            return [FULL]
        self.change_to(rows)
        return [REPLACED if row[0] in by_key(seen) else ADDED]

    def drop(self, view_number, key):
        if not self.has_view(view_number):
            return [INVALID]
        seen = self.rows_through(view_number)
        if key not in by_key(seen):
            return [ABSENT]
        self.change_to(written_back(self.rows, self.views[view_number], without_key(seen, key)))
        return [0]

    def back(self):
        if len(self.changes) == 0:
            return [ABSENT]
        self.rows = self.changes.pop()
        return [len(self.changes)]


def length_of_call(calls, place):
    number = calls[place]
    if number == VIEW:
        return 2 + calls[place + 1]
    if number == WRITE:
        return 3 + calls[place + 2]
    if number == MANY:
        return 2
    if number in (ROW, FIND, DROP):
        return 3
    return 1


def answer_of(desk, call):
    number = call[0]
    if number == BEGIN:
        return desk.begin()
    if number == VIEW:
        return desk.view(call[2:])
    if number == MANY:
        return desk.many(call[1])
    if number == ROW:
        return desk.row(call[1], call[2])
    if number == FIND:
        return desk.find(call[1], call[2])
    if number == WRITE:
        return desk.write(call[1], tuple(call[3:]))
    if number == DROP:
        return desk.drop(call[1], call[2])
    if number == BACK:
        return desk.back()
    # Going on would take the call's own numbers for calls.
    raise UnknownCall(f"no call has the number {number}")


def answers_of(desk, calls):
    given = []
    place = 0
    while place < len(calls):
        behind = place + length_of_call(calls, place)
        answer = answer_of(desk, calls[place:behind])
        given.append(len(answer))
        given.extend(answer)
        place = behind
    return given


def answers(calls):
    return answers_of(Desk(), calls)
