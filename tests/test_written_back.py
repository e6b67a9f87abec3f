"""Whole tables written back through views: more than one row may be another one here."""

import itertools
import unittest

from asking import LESS, MORE, OTHER, SAME, TOP, hide, joined, keep, shift
from viewstable.views import KeyTaken, NotShowable, shown, steps_of, written_back

TABLE = [(1, 5, 50, 0, 3), (2, 50, 5, 1, TOP), (3, 5, 5, 0, 0), (4, 0, 0, 2, 1), (9, 50, 50, 0, 7)]

STEPS = [keep(0, LESS, 4), keep(1, LESS, 10), keep(2, MORE, 4), keep(3, SAME, 0), keep(1, OTHER, 0), keep(4, LESS, 0),
         hide(1, 5), hide(2, 0), shift(1, 5), shift(4, TOP)]


def put(table, rows, *steps):
    return written_back(table, steps_of(joined(steps)), rows)


def get(table, *steps):
    return shown(table, steps_of(joined(steps)))


def some_views():
    return itertools.chain.from_iterable(itertools.product(STEPS, repeat=many) for many in range(4))


def some_writings(seen):
    """What is shown with rows left out, put in and changed, by rising keys."""
    changed = [(row[0], row[1], row[2], (row[3] + 1) % 2, row[4]) for row in seen]
    new = [(0, 0, 0, 0, 0), (3, 5, 5, 0, 0), (7, 6, 0, 0, 8), (8, 0, 9, 0, 0)]
    keys = {row[0] for row in seen}
    besides = sorted(seen + [row for row in new if row[0] not in keys])
    return [[], seen, seen[1:], seen[::2], changed, besides, besides[1:], new]


class Refusals(unittest.TestCase):
    def test_all_33_before_all_17(self):
        table = [(1, 50, 0, 0, 0)]
        with self.assertRaises(KeyTaken):
            put(table, [(1, 5, 0, 0, 0), (2, 5, 0, 0, 0)], keep(1, LESS, 10))
        with self.assertRaises(NotShowable):
            put(table, [(1, 5, 0, 0, 0), (2, 50, 0, 0, 0)], keep(1, LESS, 10))
        with self.assertRaises(NotShowable):
            put(table, [(0, 50, 0, 0, 0), (1, 5, 0, 0, 0)], keep(1, LESS, 10))

    def test_step_by_step_from_the_last_one_on(self):
        table = [(1, 5, 50, 0, 0)]
        rows = [(1, 5, 5, 0, 0), (2, 50, 5, 0, 0)]
        with self.assertRaises(KeyTaken):
            put(table, rows, keep(1, LESS, 10), keep(2, LESS, 10))
        with self.assertRaises(NotShowable):
            put(table, rows, keep(2, LESS, 10), keep(1, LESS, 10))

    def test_one_row_of_several_that_is_hidden_from(self):
        for rows in ([(1, 1, 0, 0, 0), (2, 0, 0, 0, 0)], [(1, 0, 0, 0, 0), (2, 1, 0, 0, 0)]):
            with self.assertRaises(NotShowable):
                put([], rows, hide(1))


class WhatHolds(unittest.TestCase):
    def test_read_and_written_back_nothing_changes(self):
        for steps in some_views():
            self.assertEqual(put(TABLE, get(TABLE, *steps), *steps), TABLE, steps)

    def test_written_and_read_it_is_that(self):
        written = 0
        for steps in some_views():
            for rows in some_writings(get(TABLE, *steps)):
                try:
                    table = put(TABLE, rows, *steps)
                except (KeyTaken, NotShowable):
                    continue
                written += 1
                self.assertEqual(get(table, *steps), rows, (steps, rows))
                self.assertEqual([row[0] for row in table], sorted({row[0] for row in table}), (steps, rows))
        self.assertGreater(written, 3000)

    def test_what_is_hidden_stays(self):
        for steps in some_views():
            seen = get(TABLE, *steps)
            shown_keys = {row[0] for row in seen}
            hidden = {step[1] for step in steps if step[0] == 1}
            for rows in some_writings(seen):
                try:
                    table = {row[0]: row for row in put(TABLE, rows, *steps)}
                except (KeyTaken, NotShowable):
                    continue
                for row in TABLE:
                    if row[0] not in shown_keys:
                        self.assertEqual(table[row[0]], row, (steps, rows))
                    elif row[0] in {written[0] for written in rows}:
                        for col in hidden:
                            self.assertEqual(table[row[0]][col], row[col], (steps, rows))

    def test_written_twice_it_is_written_once(self):
        first = [(1, 7, 7, 0, 0), (3, 8, 8, 0, 0), (6, 9, 9, 0, 0)]
        second = [(1, 1, 6, 0, 0), (3, 2, 5, 0, 0), (6, 3, 9, 0, 4)]
        for steps in ([], [hide(3, 5)], [keep(1, LESS, 10), hide(3)], [shift(1, 0), keep(2, OTHER, 0)]):
            table = [row for row in TABLE if row[0] in (1, 3)]
            self.assertEqual([row[0] for row in get(table, *steps)], [1, 3])
            once = put(table, second, *steps)
            self.assertEqual(put(once, second, *steps), once, steps)
            self.assertEqual(put(put(table, first, *steps), second, *steps), once, steps)

    def test_the_table_and_the_rows_stay_as_they_were(self):
        for steps in some_views():
            table = list(TABLE)
            rows = get(table, *steps)
            before = list(rows)
            behind = put(table, rows, *steps)
            self.assertIsNot(behind, table)
            self.assertIsNot(behind, rows)
            self.assertEqual((table, rows), (TABLE, before))


if __name__ == "__main__":
    unittest.main()
