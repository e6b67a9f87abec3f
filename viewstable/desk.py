"""The desk: one table, the views on it, and the calls that are asked of it."""

from viewstable.views import is_view, shown, steps_of

BEGIN = 0
VIEW = 1
MANY = 2
ROW = 3

# The refusals' numbers.
ABSENT = -2
INVALID = -22
FULL = -28

MOST_VIEWS = 16


class UnknownCall(ValueError):
    pass


class Desk:
    def __init__(self):
        self.rows = []
        self.views = []

    def begin(self):
        self.rows = []
        self.views = []
        return [0]

    def view(self, numbers):
        steps = steps_of(numbers)
        # What is no view is told as such even where there is no room for one.
        if not is_view(steps):
            return [INVALID]
        if len(self.views) >= MOST_VIEWS:
            return [FULL]
        self.views.append(steps)
        return [len(self.views) - 1]

    def has_view(self, view_number):
        return view_number < len(self.views)

    def rows_through(self, view_number):
        return shown(self.rows, self.views[view_number])

    def many(self, view_number):
        if not self.has_view(view_number):
            return [INVALID]
        return [len(self.rows_through(view_number))]

    def row(self, view_number, k):
        if not self.has_view(view_number):
            return [INVALID]
        seen = self.rows_through(view_number)
        if len(seen) <= k:
            return [ABSENT]
        return [0] + list(seen[k])


def length_of_call(calls, place):
    if calls[place] == VIEW:
        return 2 + calls[place + 1]
    if calls[place] == MANY:
        return 2
    if calls[place] == ROW:
        return 3
    return 1


def answer_of(desk, call):
    number = call[0]
    if number == BEGIN:
        return desk.begin()
    if number == VIEW:
        return desk.view(call[2:])
    if number == MANY:
        return desk.many(call[1])
    if number == ROW:
        return desk.row(call[1], call[2])
    # Going on would take the call's own numbers for calls.
    raise UnknownCall(f"no call has the number {number}")


def answers_of(desk, calls):
    given = []
    place = 0
    while place < len(calls):
        behind = place + length_of_call(calls, place)
        answer = answer_of(desk, calls[place:behind])
        given.append(len(answer))
        given.extend(answer)
        place = behind
    return given


def answers(calls):
    return answers_of(Desk(), calls)
