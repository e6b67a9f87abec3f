"""What holds over the whole program, on many lists of calls, and the corners."""

import random
import unittest

from asking import BACK, BEGIN, LESS, MORE, OTHER, SAME, TOP, asked, drop, find, hide, joined, keep, many, row, seen
from asking import shift, through, told, view, write


class Model:
    """The promises told row by row, over a dict of rows: another way to the same answers."""

    def __init__(self):
        self.table, self.views, self.before = {}, [], []

    def shown(self, steps, key):
        """The row with this key as the steps show it, or None."""
        if key not in self.table:
            return None
        numbers = list(self.table[key])
        for kind, col, how, value in steps:
            if kind == 0 and not self.keeps(how, numbers[col], value):
                return None
            if kind == 1:
                numbers[col] = 0
            if kind == 2:
                numbers[col] = (numbers[col] + value) % 2 ** 32
        return numbers

    def keeps(self, how, number, value):
        return (number < value, number == value, number > value, number != value)[how]

    def beneath(self, steps, numbers):
        """A refusal, or the row that is in the table once it's written through the steps."""
        numbers = list(numbers)
        for place in reversed(range(len(steps))):
            kind, col, how, value = steps[place]
            there = self.shown(steps[:place], numbers[0])
            if kind == 0 and not self.keeps(how, numbers[col], value):
                return -33
            if kind == 0 and there is not None and not self.keeps(how, there[col], value):
                return -17
            if kind == 1 and numbers[col] != 0:
                return -33
            if kind == 1:
                numbers[col] = value if there is None else there[col]
            if kind == 2:
                numbers[col] = (numbers[col] - value) % 2 ** 32
        return numbers

    def change(self, table):
        if table != self.table:
            self.before = [*self.before, self.table][-32:]
            self.table = table

    def answer(self, call):
        kind, asked_with = call[0], call[1:]
        if kind == 0:
            Model.__init__(self)
            return [0]
        if kind == 1:
            return self.view([asked_with[place:place + 4] for place in range(1, len(asked_with), 4)])
        if kind == 7:
            return self.back()
        if asked_with[0] >= len(self.views):
            return [-22]
        steps = self.views[asked_with[0]]
        if kind == 5:
            return self.write(steps, asked_with[2:])
        rows = [self.shown(steps, key) for key in sorted(self.table)]
        return self.look(kind, [numbers for numbers in rows if numbers is not None], asked_with[1:])

    def view(self, steps):
        for kind, col, how, value in steps:
            if not (kind == 0 and col < 5 and how < 4 or kind in (1, 2) and 0 < col < 5 and how == 0):
                return [-22]
        if len(steps) > 8:
            return [-22]
        if len(self.views) == 16:
            return [-28]
        self.views.append(steps)
        return [len(self.views) - 1]

    def back(self):
        if not self.before:
            return [-2]
        self.table = self.before.pop()
        return [len(self.before)]

    def write(self, steps, numbers):
        written = self.beneath(steps, numbers)
        if isinstance(written, int):
            return [written]
        if len(self.table) == 256 and numbers[0] not in self.table:
            return [-28]
        answer = [1 if self.shown(steps, numbers[0]) is None else 2]
        self.change({**self.table, numbers[0]: written})
        return answer

    def look(self, kind, rows, asked_with):
        if kind == 2:
            return [len(rows)]
        if kind == 3:
            return [0, *rows[asked_with[0]]] if asked_with[0] < len(rows) else [-2]
        found = [numbers for numbers in rows if numbers[0] == asked_with[0]]
        if not found:
            return [-2]
        if kind == 4:
            return [0, *found[0]]
        self.change({key: numbers for key, numbers in self.table.items() if key != asked_with[0]})
        return [0]


NUMBERS = [0, 0, 0, 1, 1, 2, 3, TOP]


def some_step(choose):
    kind = choose.choice([0, 0, 1, 2])
    if kind == 0:
        return [0, choose.randrange(5), choose.randrange(4), choose.choice(NUMBERS)]
    return [kind, choose.randrange(1, 5), 0, choose.choice(NUMBERS)]


def some_view(choose):
    steps = [some_step(choose) for place in range(choose.choice([0, 1, 1, 2, 2, 3, 4, 8]))]
    if choose.randrange(20) == 0:
        steps.append([choose.randrange(4), choose.randrange(7), choose.randrange(6), 1])
    return through(*steps)


def some_row(choose, keys):
    return [choose.randrange(keys), *[choose.choice(NUMBERS) for col in range(4)]]


def some_call(choose, views, keys, begins=1):
    number = choose.randrange(views + 1) if choose.randrange(20) == 0 else choose.randrange(views)
    key = choose.randrange(keys)
    kinds = [BEGIN, some_view(choose), many(number), row(number, key), find(number, key), BACK, drop(number, key),
             write(number, *some_row(choose, keys))]
    return choose.choices(kinds, weights=[begins, 8, 20, 40, 40, 24, 32, 200])[0]


def some_calls(choose, many_calls):
    views = choose.choice([1, 2, 3, 4, 5, 14])
    keys = choose.choice([2, 6, 12])
    start = [view(), *[some_view(choose) for place in range(views)]]
    return start + [some_call(choose, views, keys) for place in range(many_calls)]


class AgainstTheModel(unittest.TestCase):
    def test_many_lists_of_calls(self):
        met = {}
        for seed in range(400):
            calls = some_calls(random.Random(seed), 150)
            model = Model()
            for call, answer in zip(calls, told(*calls), strict=True):
                self.assertEqual(answer, model.answer(call), (seed, call))
                met.setdefault(call[0], set()).add(min(answer[0], 1) if call[0] in (1, 2, 7) else answer[0])
        self.assertEqual(met, {0: {0}, 1: {0, 1, -22, -28}, 2: {0, 1, -22}, 3: {0, -2, -22}, 4: {0, -2, -22},
                               5: {1, 2, -17, -22, -33}, 6: {0, -2, -22}, 7: {0, 1, -2}})

    def test_lists_of_calls_near_256_rows(self):
        met = set()
        for seed in range(30):
            choose = random.Random(seed)
            calls = [view(), through(keep(1, MORE, 0), shift(2, 1)), through(hide(3, 1)), through(keep(0, LESS, 130))]
            calls += [write(0, key, *some_row(choose, 1)[1:]) for key in choose.sample(range(320), 256)]
            calls += [some_call(choose, 4, 320, begins=0) for place in range(140)]
            model = Model()
            for call, answer in zip(calls, told(*calls), strict=True):
                self.assertEqual(answer, model.answer(call), (seed, call))
                met.add((call[0], answer[0]))
        self.assertLessEqual({(5, 1), (5, 2), (5, -17), (5, -28), (5, -33), (2, 256)}, met)


VIEWS = [view(), through(keep(1, MORE, 10)), through(keep(0, LESS, 4), hide(2, 9)),
         through(shift(1, 5), keep(1, LESS, 12)), through(hide(1, 20), hide(3)), through(keep(0, LESS, 0)),
         through(keep(2, SAME, 0), hide(4, 1), shift(4, 3))]

ROWS = [(1, 3, 0, 5, 6), (2, 20, 1, 5, 6), (3, 11, 0, 5, 6), (5, 6, 0, 0, 0), (8, TOP, 4, 4, 4)]

LAID = [*VIEWS, *[write(0, *numbers) for numbers in ROWS]]


def looks(*calls):
    return [seen(number, *calls) for number in range(len(VIEWS))]


def some_writes():
    for number in range(len(VIEWS)):
        for key in range(10):
            for columns in ((3, 0, 0, 3), (3, 0, 1, 1), (15, 0, 0, 0), (0, 0, 0, 3), (4, 1, 2, 3), (6, 0, 5, 9)):
                yield number, (key, *columns)


class WhatHolds(unittest.TestCase):
    def test_what_is_written_is_seen(self):
        answered = set()
        before = looks(*LAID)
        for number, numbers in some_writes():
            calls = [*LAID, write(number, *numbers)]
            answer = told(*calls)[-1][0]
            answered.add(answer)
            others = [shown for shown in before[number] if shown[0] != numbers[0]]
            if answer < 0:
                self.assertEqual(looks(*calls), before, (number, numbers))
            else:
                self.assertEqual(seen(number, *calls), sorted([*others, numbers]), (number, numbers))
                self.assertEqual(answer, 1 if others == before[number] else 2, (number, numbers))
        self.assertEqual(answered, {1, 2, -17, -33})

    def test_behind_a_drop_all_but_that_one_are_seen(self):
        before = looks(*LAID)
        for number in range(len(VIEWS)):
            for numbers in before[number]:
                calls = [*LAID, drop(number, numbers[0])]
                self.assertEqual(told(*calls)[-1], [0])
                self.assertEqual(seen(number, *calls), [shown for shown in before[number] if shown != numbers])

    def test_what_is_hidden_stays(self):
        before = looks(*LAID)
        changes = [(number, write(number, *numbers)) for number, numbers in some_writes()]
        changes += [(number, drop(number, key)) for number in range(len(VIEWS)) for key in range(10)]
        for number, change in changes:
            mine = {numbers[0] for numbers in before[number]}
            behind = looks(*LAID, change)
            for numbers in before[0]:
                if numbers[0] not in mine:
                    self.assertIn(numbers, behind[0], change)

    def test_another_view_of_hidden_rows_alone_shows_the_same(self):
        low, high = through(keep(1, LESS, 10), shift(2, 1)), through(keep(1, MORE, 9), hide(3))
        rows = [(1, 9, 0, 0, 0), (2, 10, 7, 7, 7), (3, 0, 5, 5, 5), (4, TOP, 1, 1, 1)]
        laid = [view(), low, high, *[write(0, *numbers) for numbers in rows]]
        for number, change in ((1, write(1, 5, 9, 9, 9, 9)), (1, write(1, 1, 0, 9, 9, 9)), (1, drop(1, 3)),
                               (2, write(2, 2, 12, 9, 0, 9)), (2, write(2, 0, 12, 9, 0, 9)), (2, drop(2, 4))):
            other = 3 - number
            calls = [*laid, change]
            self.assertGreaterEqual(told(*calls)[-1][0], 0)
            self.assertNotEqual(seen(number, *calls), seen(number, *laid))
            self.assertEqual(seen(other, *calls), seen(other, *laid), change)

    def test_taken_back_it_is_as_it_was(self):
        before = looks(*LAID)
        changes = [write(number, *numbers) for number, numbers in some_writes()]
        changes += [drop(number, key) for number in range(len(VIEWS)) for key in range(10)]
        for change in changes:
            if looks(*LAID, change) != before:
                self.assertEqual(looks(*LAID, change, BACK), before, change)
                self.assertEqual(told(*LAID, change, BACK)[-1], [5], change)

    def test_what_is_read_depends_on_the_table_alone(self):
        ways = [
            [write(0, *numbers) for numbers in reversed(ROWS)],
            [write(2, 1, 3, 0, 5, 6), write(0, 1, 3, 0, 5, 6), write(1, *ROWS[1]), write(1, *ROWS[2]),
             write(3, 5, 11, 0, 0, 0), write(1, *ROWS[4])],
            [write(4, 2, 0, 1, 0, 6), write(0, 2, 20, 1, 5, 6), *[write(0, *numbers) for numbers in ROWS]],
            [write(0, 7, 7, 7, 7, 7), write(0, *ROWS[3]), BACK, *[write(0, *numbers) for numbers in ROWS], drop(0, 7)],
            [*[write(0, *numbers) for numbers in ROWS], write(0, 5, 5, 5, 5, 5), drop(0, 1), BACK, BACK],
            [write(6, 5, 6, 0, 0, 2), write(0, *ROWS[3]), *[write(0, *numbers) for numbers in ROWS]]]
        for calls in ways:
            self.assertEqual(looks(*VIEWS, *calls), looks(*LAID), calls)
        reads = [call for number in range(len(VIEWS)) for call in (many(number), row(number, 1), find(number, 3))]
        self.assertEqual(told(*LAID, *reads, *reads)[-len(reads):], told(*LAID, *reads)[-len(reads):])


class Corners(unittest.TestCase):
    def test_a_row_written_that_another_view_hides(self):
        calls = [view(), through(keep(1, LESS, 10)), write(0, 1, 50, 0, 0, 0), many(1), find(1, 1), row(1, 0),
                 drop(1, 1), write(1, 1, 5, 0, 0, 0), write(1, 2, 5, 0, 0, 0), many(1), many(0)]
        self.assertEqual(told(*calls)[2:], [[1], [0], [-2], [-2], [-2], [-17], [1], [1], [2]])

    def test_a_row_moved_out_of_ones_own_view_by_another(self):
        calls = [view(), through(keep(1, LESS, 10)), write(1, 1, 5, 0, 0, 0), find(1, 1), write(0, 1, 10, 0, 0, 0),
                 find(1, 1), many(1), write(1, 1, 5, 0, 0, 0), drop(1, 1), find(0, 1), BACK, find(1, 1), drop(1, 1)]
        self.assertEqual(told(*calls)[2:], [[1], [0, 1, 5, 0, 0, 0], [2], [-2], [0], [-17], [-2], [0, 1, 10, 0, 0, 0],
                                            [1], [0, 1, 5, 0, 0, 0], [0]])

    def test_a_row_moved_into_ones_view_by_another(self):
        calls = [view(), through(keep(1, LESS, 10)), write(0, 1, 10, 7, 0, 0), write(0, 1, 9, 7, 0, 0), find(1, 1),
                 write(1, 1, 8, 8, 0, 0), find(0, 1)]
        self.assertEqual(told(*calls)[2:], [[1], [2], [0, 1, 9, 7, 0, 0], [2], [0, 1, 8, 8, 0, 0]])

    def test_a_view_that_keeps_nothing(self):
        for nothing in ([keep(0, LESS, 0)], [keep(3, MORE, TOP)], [keep(1, SAME, 1), keep(1, OTHER, 1)],
                        [hide(1), keep(1, MORE, 0)], [shift(2, 9), keep(2, LESS, 0)]):
            calls = [view(), through(*nothing), write(0, 0, 0, 0, 0, 0), many(1), row(1, 0), find(1, 0), drop(1, 0),
                     write(1, 7, 1, 0, 0, 0), many(0), BACK]
            self.assertEqual(told(*calls)[2:], [[1], [0], [-2], [-2], [-2], [-33], [1], [0]], nothing)

    def test_views_of_hidden_columns_write_side_by_side(self):
        calls = [through(hide(1, 11)), through(hide(2, 22)), view(), write(0, 5, 0, 7, 7, 7), write(1, 5, 8, 0, 8, 8),
                 find(0, 5), find(1, 5), find(2, 5)]
        self.assertEqual(told(*calls)[3:], [[1], [2], [0, 5, 0, 7, 8, 8], [0, 5, 8, 0, 8, 8], [0, 5, 8, 7, 8, 8]])

    def test_a_view_made_behind_the_rows(self):
        calls = [view(), write(0, 5, 1, 1, 1, 1), through(shift(1, 1)), find(1, 5), write(1, 5, 0, 1, 1, 1), find(0, 5)]
        self.assertEqual(told(*calls)[3:], [[0, 5, 2, 1, 1, 1], [2], [0, 5, TOP, 1, 1, 1]])

    def test_16_views_write(self):
        calls = [through(shift(1, number)) for number in range(16)]
        calls += [write(number, number, number, 0, 0, 0) for number in range(16)]
        self.assertEqual(seen(0, *calls), [(number, 0, 0, 0, 0) for number in range(16)])
        self.assertEqual(told(*calls, write(16, 0, 0, 0, 0, 0))[-1], [-22])

    def test_400_calls_of_the_longest_views(self):
        steps = [keep(0, OTHER, TOP), shift(1, 1), hide(2, 0), shift(1, 1), keep(3, LESS, TOP), shift(4, 1),
                 shift(4, 1), keep(1, OTHER, TOP)]
        calls = [*[through(*steps)] * 16, *[write(place % 16, place, 2, 0, 3, 4) for place in range(256)],
                 *[find(place % 16, place) for place in range(127)], write(3, 256, 2, 0, 3, 4)]
        self.assertEqual(len(calls), 400)
        found = joined([[6, 0, key, 2, 0, 3, 4] for key in range(127)])
        self.assertEqual(asked(*calls)[32:], [1, 1] * 256 + found + [1, -28])


if __name__ == "__main__":
    unittest.main()
