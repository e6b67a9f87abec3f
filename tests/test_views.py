import unittest

from asking import LESS, MORE, OTHER, SAME, TOP, hide, joined, keep, shift
from viewstable.views import is_view, shown, steps_of


def look(rows, *steps):
    return shown(rows, steps_of(joined(steps)))


def told(*steps):
    return is_view(steps_of(joined(steps)))


# In every column the three rows are below, at and above 20, in another order each.
ROWS = [
    (10, 20, 30, 10, 30),
    (20, 30, 10, 30, 20),
    (30, 10, 20, 20, 10),
]


class Told(unittest.TestCase):
    def test_no_steps(self):
        self.assertTrue(told())

    def test_up_to_eight_steps(self):
        for many in range(1, 9):
            self.assertTrue(told(*[hide(1)] * many), many)

    def test_more_than_eight_steps(self):
        for many in range(9, 13):
            self.assertFalse(told(*[hide(1)] * many), many)

    def test_kinds(self):
        for kind in (0, 1, 2):
            self.assertTrue(told([kind, 1, 0, 7]), kind)
        for kind in (3, 4, TOP):
            self.assertFalse(told([kind, 1, 0, 7]), kind)

    def test_columns_of_keep(self):
        for col in range(5):
            self.assertTrue(told(keep(col, LESS, 7)), col)
        for col in (5, 6, TOP):
            self.assertFalse(told(keep(col, LESS, 7)), col)

    def test_columns_of_hide_and_shift(self):
        for kind in (1, 2):
            for col in range(1, 5):
                self.assertTrue(told([kind, col, 0, 7]), (kind, col))
            for col in (0, 5, TOP):
                self.assertFalse(told([kind, col, 0, 7]), (kind, col))

    def test_how_of_keep(self):
        for how in range(4):
            self.assertTrue(told(keep(0, how, 7)), how)
        for how in (4, 5, TOP):
            self.assertFalse(told(keep(0, how, 7)), how)

    def test_how_of_hide_and_shift(self):
        for kind in (1, 2):
            for how in (1, 2, 3, 4, TOP):
                self.assertFalse(told([kind, 1, how, 7]), (kind, how))

    def test_values(self):
        for kind in (0, 1, 2):
            for value in (0, TOP):
                self.assertTrue(told([kind, 1, 0, value]), (kind, value))

    def test_one_wrong_step_anywhere(self):
        for place in range(8):
            steps = [hide(1)] * 8
            steps[place] = hide(0)
            self.assertFalse(told(*steps), place)


class Keep(unittest.TestCase):
    def test_each_how_over_each_column(self):
        wanted = {LESS: (10,), SAME: (20,), MORE: (30,), OTHER: (10, 30)}
        for col in range(5):
            for how, numbers in wanted.items():
                rows = [row for row in ROWS if row[col] in numbers]
                self.assertEqual(look(ROWS, keep(col, how, 20)), rows, (col, how))

    def test_written_out(self):
        self.assertEqual(look(ROWS, keep(0, LESS, 30)), [ROWS[0], ROWS[1]])
        self.assertEqual(look(ROWS, keep(1, SAME, 30)), [ROWS[1]])
        self.assertEqual(look(ROWS, keep(2, MORE, 10)), [ROWS[0], ROWS[2]])
        self.assertEqual(look(ROWS, keep(4, OTHER, 20)), [ROWS[0], ROWS[2]])

    def test_keeps_nothing(self):
        self.assertEqual(look(ROWS, keep(0, LESS, 0)), [])
        self.assertEqual(look(ROWS, keep(1, MORE, TOP)), [])
        self.assertEqual(look(ROWS, keep(1, SAME, 21)), [])

    def test_edges_of_the_numbers(self):
        rows = [(0, 0, TOP, 0, TOP), (TOP, TOP, 0, TOP, 0)]
        self.assertEqual(look(rows, keep(0, LESS, TOP)), [rows[0]])
        self.assertEqual(look(rows, keep(0, MORE, 0)), [rows[1]])
        self.assertEqual(look(rows, keep(2, SAME, TOP)), [rows[0]])
        self.assertEqual(look(rows, keep(2, OTHER, 0)), [rows[0]])


class Hide(unittest.TestCase):
    def test_shows_zero_in_that_column_alone(self):
        rows = [(5, 1, 2, 3, 4), (9, TOP, TOP, TOP, TOP)]
        self.assertEqual(look(rows, hide(1)), [(5, 0, 2, 3, 4), (9, 0, TOP, TOP, TOP)])
        self.assertEqual(look(rows, hide(2)), [(5, 1, 0, 3, 4), (9, TOP, 0, TOP, TOP)])
        self.assertEqual(look(rows, hide(3)), [(5, 1, 2, 0, 4), (9, TOP, TOP, 0, TOP)])
        self.assertEqual(look(rows, hide(4)), [(5, 1, 2, 3, 0), (9, TOP, TOP, TOP, 0)])

    def test_value_is_not_shown(self):
        self.assertEqual(look([(5, 1, 2, 3, 4)], hide(2, 77)), [(5, 1, 0, 3, 4)])


class Shift(unittest.TestCase):
    def test_adds_in_that_column_alone(self):
        rows = [(5, 1, 2, 3, 4)]
        self.assertEqual(look(rows, shift(1, 10)), [(5, 11, 2, 3, 4)])
        self.assertEqual(look(rows, shift(2, 10)), [(5, 1, 12, 3, 4)])
        self.assertEqual(look(rows, shift(3, 10)), [(5, 1, 2, 13, 4)])
        self.assertEqual(look(rows, shift(4, 10)), [(5, 1, 2, 3, 14)])

    def test_by_zero(self):
        self.assertEqual(look(ROWS, shift(1, 0)), ROWS)

    def test_past_the_last_number(self):
        rows = [(1, TOP - 1, 0, 0, 0), (2, TOP, 0, 0, 0)]
        self.assertEqual(look(rows, shift(1, 1)), [(1, TOP, 0, 0, 0), (2, 0, 0, 0, 0)])
        self.assertEqual(look(rows, shift(1, TOP)), [(1, TOP - 2, 0, 0, 0), (2, TOP - 1, 0, 0, 0)])


class OverOneAnother(unittest.TestCase):
    def test_no_steps(self):
        self.assertEqual(look(ROWS), ROWS)

    def test_keep_by_a_column_that_is_hidden_before(self):
        self.assertEqual(look(ROWS, hide(1), keep(1, MORE, 0)), [])
        self.assertEqual(look(ROWS, hide(1), keep(1, SAME, 0)), look(ROWS, hide(1)))

    def test_hide_a_column_that_is_kept_by_before(self):
        self.assertEqual(look(ROWS, keep(1, MORE, 20), hide(1)), [(20, 0, 10, 30, 20)])

    def test_shift_and_keep(self):
        self.assertEqual(look(ROWS, shift(1, 5), keep(1, SAME, 25)), [(10, 25, 30, 10, 30)])
        self.assertEqual(look(ROWS, keep(1, SAME, 25), shift(1, 5)), [])
        self.assertEqual(look(ROWS, keep(1, SAME, 20), shift(1, 5)), [(10, 25, 30, 10, 30)])

    def test_shift_past_the_last_number_and_keep(self):
        rows = [(1, TOP, 0, 0, 0), (2, 7, 0, 0, 0)]
        self.assertEqual(look(rows, shift(1, 1), keep(1, LESS, 8)), [(1, 0, 0, 0, 0)])

    def test_hide_and_shift(self):
        self.assertEqual(look([(5, 1, 2, 3, 4)], hide(1), shift(1, 6)), [(5, 6, 2, 3, 4)])
        self.assertEqual(look([(5, 1, 2, 3, 4)], shift(1, 6), hide(1)), [(5, 0, 2, 3, 4)])

    def test_shift_twice(self):
        self.assertEqual(look([(5, 1, 2, 3, 4)], shift(1, TOP), shift(1, 2)), [(5, 2, 2, 3, 4)])

    def test_kept_by_one_step_and_not_by_the_next(self):
        self.assertEqual(look(ROWS, keep(0, MORE, 10), keep(2, MORE, 10)), [ROWS[2]])

    def test_eight_steps(self):
        self.assertEqual(look([(5, 1, 2, 3, 4)], *[shift(4, 100)] * 8), [(5, 1, 2, 3, 804)])


class Tables(unittest.TestCase):
    def test_no_rows(self):
        for steps in ([], [keep(0, OTHER, 1)], [hide(1)], [shift(1, 1)]):
            self.assertEqual(look([], *steps), [])

    def test_256_rows_by_rising_keys(self):
        rows = [(key, key, key, key, key) for key in range(256)]
        self.assertEqual(look(rows), rows)
        self.assertEqual(look(rows, keep(0, MORE, 99), keep(3, LESS, 102)), [rows[100], rows[101]])

    def test_the_table_stays_as_it_was(self):
        for steps in ([], [keep(0, SAME, 20)], [hide(1)], [shift(1, 1)]):
            rows = list(ROWS)
            seen = look(rows, *steps)
            self.assertIsNot(seen, rows)
            self.assertEqual(rows, ROWS)


if __name__ == "__main__":
    unittest.main()
