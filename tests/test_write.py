import unittest

from asking import BACK, LESS, MORE, OTHER, SAME, TOP, find, firsts, hide, keep, many, seen, shift, through, told, view
from asking import drop, write


def laid(steps, rows):
    """Calls: view 0 shows the table as it is, view 1 is by these steps, the rows are in the table."""
    return [view(), through(*steps), *[write(0, *row) for row in rows]]


class WriteCase(unittest.TestCase):
    def written(self, steps, rows, row, answer, table):
        """Written through the steps the row answers so, and then the table has these rows."""
        calls = [*laid(steps, rows), write(1, *row)]
        self.assertEqual(told(*calls)[-1], [answer])
        self.assertEqual(seen(0, *calls), table)

    def refused(self, steps, rows, row, answer):
        """Refused with just this number, the table is as it was, and no change is kept of it."""
        calls = [*laid(steps, rows), write(1, *row)]
        self.assertEqual(told(*calls)[-1], [answer])
        for number in (0, 1):
            self.assertEqual(seen(number, *calls), seen(number, *laid(steps, rows)))
        kept = told(*calls, BACK)[-1]
        self.assertEqual(kept, told(*laid(steps, rows), BACK)[-1])


class WithoutSteps(WriteCase):
    def test_no_such_view(self):
        self.assertEqual(firsts(write(0, 1, 2, 3, 4, 5)), [-22])
        for number in (2, 3, 16, TOP):
            calls = [view(), view(), write(number, 1, 2, 3, 4, 5), many(0), BACK]
            self.assertEqual(firsts(*calls)[2:], [-22, 0, -2], number)

    def test_a_new_row(self):
        self.written([], [], (1, 2, 3, 4, 5), 1, [(1, 2, 3, 4, 5)])

    def test_a_row_in_place_of_another(self):
        self.written([], [(1, 2, 3, 4, 5)], (1, 6, 7, 8, 9), 2, [(1, 6, 7, 8, 9)])

    def test_a_row_that_is_there_already(self):
        self.written([], [(1, 2, 3, 4, 5)], (1, 2, 3, 4, 5), 2, [(1, 2, 3, 4, 5)])

    def test_one_in_place_of_another_leaves_the_others(self):
        rows = [(1, 1, 1, 1, 1), (2, 2, 2, 2, 2), (3, 3, 3, 3, 3)]
        self.written([], rows, (2, 9, 8, 7, 6), 2, [rows[0], (2, 9, 8, 7, 6), rows[2]])

    def test_rows_stay_by_rising_keys(self):
        rows = [(key, 0, 0, 0, 0) for key in (30, 10, TOP, 20, 0)]
        self.assertEqual(seen(0, *laid([], rows)), sorted(rows))
        self.written([], rows, (15, 9, 9, 9, 9), 1, sorted([*rows, (15, 9, 9, 9, 9)]))

    def test_keys_are_ordered_whatever_the_columns_are(self):
        self.written([], [(2, 0, 0, 0, 0)], (1, 9, 9, 9, 9), 1, [(1, 9, 9, 9, 9), (2, 0, 0, 0, 0)])
        self.written([], [(9, 0, 0, 0, 0)], (10, 0, 0, 0, 0), 1, [(9, 0, 0, 0, 0), (10, 0, 0, 0, 0)])

    def test_first_and_last_numbers(self):
        self.written([], [(0, 0, 0, 0, 0)], (TOP, TOP, TOP, TOP, TOP), 1, [(0, 0, 0, 0, 0), (TOP, TOP, TOP, TOP, TOP)])
        self.written([], [(0, 0, 0, 0, 0)], (0, TOP, 0, TOP, 0), 2, [(0, TOP, 0, TOP, 0)])


class ThroughKeep(WriteCase):
    def test_each_how_over_each_column(self):
        taken = {LESS: (0, 19), SAME: (20,), MORE: (21, TOP), OTHER: (0, 19, 21, TOP)}
        for col in range(5):
            for how, numbers in taken.items():
                for number in (0, 19, 20, 21, TOP):
                    row = [1, 2, 3, 4, 5]
                    row[col] = number
                    with self.subTest(col=col, how=how, number=number):
                        if number in numbers:
                            self.written([keep(col, how, 20)], [], row, 1, [tuple(row)])
                        else:
                            self.refused([keep(col, how, 20)], [], row, -33)

    def test_rows_that_are_left_out_stay(self):
        rows = [(1, 5, 0, 0, 0), (2, 50, 0, 0, 0), (4, 60, 7, 7, 7)]
        self.written([keep(1, LESS, 10)], rows, (3, 9, 1, 1, 1), 1, [rows[0], rows[1], (3, 9, 1, 1, 1), rows[2]])
        self.written([keep(1, LESS, 10)], rows, (1, 9, 1, 1, 1), 2, [(1, 9, 1, 1, 1), rows[1], rows[2]])

    def test_by_the_key(self):
        rows = [(1, 0, 0, 0, 0), (7, 0, 0, 0, 0)]
        self.written([keep(0, MORE, 5)], rows, (6, 1, 1, 1, 1), 1, [rows[0], (6, 1, 1, 1, 1), rows[1]])
        self.written([keep(0, MORE, 5)], rows, (7, 1, 1, 1, 1), 2, [rows[0], (7, 1, 1, 1, 1)])
        # By the key a row that's kept never has the key of one that isn't.
        self.refused([keep(0, MORE, 5)], rows, (1, 1, 1, 1, 1), -33)
        self.refused([keep(0, MORE, 5)], rows, (5, 1, 1, 1, 1), -33)

    def test_a_row_that_is_shown_cannot_be_written_out_of_the_view(self):
        self.refused([keep(1, LESS, 10)], [(1, 5, 0, 0, 0)], (1, 10, 0, 0, 0), -33)

    def test_a_key_of_a_row_that_is_left_out(self):
        self.refused([keep(1, LESS, 10)], [(1, 5, 0, 0, 0), (2, 50, 0, 0, 0)], (2, 5, 0, 0, 0), -17)

    def test_both_at_one_step(self):
        self.refused([keep(1, LESS, 10)], [(2, 50, 0, 0, 0)], (2, 50, 0, 0, 0), -33)
        self.refused([keep(1, LESS, 10)], [(2, 50, 0, 0, 0)], (2, 60, 0, 0, 0), -33)

    def test_a_view_that_keeps_nothing(self):
        for col in range(5):
            self.refused([keep(col, LESS, 0)], [(0, 0, 0, 0, 0)], (0, 0, 0, 0, 0), -33)
            self.refused([keep(col, LESS, 0)], [], (1, 0, 0, 0, 0), -33)
            self.refused([keep(col, MORE, TOP)], [], (TOP, TOP, TOP, TOP, TOP), -33)


class ThroughHide(WriteCase):
    def test_a_new_row_has_value_beneath(self):
        for col in range(1, 5):
            row, beneath = [7, 1, 2, 3, 4], [7, 1, 2, 3, 4]
            row[col], beneath[col] = 0, 99
            self.written([hide(col, 99)], [], row, 1, [tuple(beneath)])

    def test_value_0_and_the_last_one(self):
        self.written([hide(1, 0)], [], (7, 0, 2, 3, 4), 1, [(7, 0, 2, 3, 4)])
        self.written([hide(1, TOP)], [], (7, 0, 2, 3, 4), 1, [(7, TOP, 2, 3, 4)])

    def test_a_row_that_is_there_keeps_what_it_has(self):
        for col in range(1, 5):
            row, beneath = [7, 6, 6, 6, 6], [7, 6, 6, 6, 6]
            row[col], beneath[col] = 0, col
            self.written([hide(col, 99)], [(7, 1, 2, 3, 4)], row, 2, [tuple(beneath)])

    def test_other_rows_keep_what_they_have(self):
        rows = [(1, 11, 0, 0, 0), (2, 22, 0, 0, 0), (3, 0, 0, 0, 0)]
        self.written([hide(1, 99)], rows, (4, 0, 5, 5, 5), 1, [*rows, (4, 99, 5, 5, 5)])
        self.written([hide(1, 99)], rows, (2, 0, 5, 5, 5), 2, [rows[0], (2, 22, 5, 5, 5), rows[2]])

    def test_a_row_that_was_dropped_is_new(self):
        calls = [*laid([hide(1, 99)], [(7, 1, 2, 3, 4)]), drop(1, 7), write(1, 7, 0, 2, 3, 4)]
        self.assertEqual(told(*calls)[-2:], [[0], [1]])
        self.assertEqual(seen(0, *calls), [(7, 99, 2, 3, 4)])

    def test_something_else_than_0(self):
        for col in range(1, 5):
            for number in (1, 99, TOP):
                row = [7, 0, 0, 0, 0]
                row[col] = number
                self.refused([hide(col, 99)], [], row, -33)
                self.refused([hide(col, 99)], [(7, 99, 99, 99, 99)], row, -33)

    def test_twice_the_same_column(self):
        # To the first step the second one's value is something else than 0.
        self.refused([hide(1, 5), hide(1, 6)], [], (7, 0, 2, 3, 4), -33)
        self.written([hide(1, 5), hide(1, 0)], [], (7, 0, 2, 3, 4), 1, [(7, 5, 2, 3, 4)])
        self.written([hide(1, 5), hide(1, 6)], [(7, 8, 0, 0, 0)], (7, 0, 2, 3, 4), 2, [(7, 8, 2, 3, 4)])

    def test_two_columns(self):
        self.written([hide(1, 5), hide(4, 6)], [], (7, 0, 2, 3, 0), 1, [(7, 5, 2, 3, 6)])
        self.refused([hide(1, 5), hide(4, 6)], [], (7, 1, 2, 3, 0), -33)
        self.refused([hide(1, 5), hide(4, 6)], [], (7, 0, 2, 3, 1), -33)


class ThroughShift(WriteCase):
    def test_less_value_in_that_column_alone(self):
        for col in range(1, 5):
            row = [7, 20, 20, 20, 20]
            beneath = [7, 20, 20, 20, 20]
            beneath[col] = 5
            self.written([shift(col, 15)], [], row, 1, [tuple(beneath)])

    def test_below_0(self):
        self.written([shift(1, 1)], [], (7, 0, 0, 0, 0), 1, [(7, TOP, 0, 0, 0)])
        self.written([shift(1, TOP)], [], (7, 0, 0, 0, 0), 1, [(7, 1, 0, 0, 0)])
        self.written([shift(1, TOP)], [], (7, TOP, 0, 0, 0), 1, [(7, 0, 0, 0, 0)])
        self.written([shift(1, 10)], [], (7, 3, 0, 0, 0), 1, [(7, TOP - 6, 0, 0, 0)])

    def test_by_0(self):
        self.written([shift(1, 0)], [], (7, 3, 0, 0, 0), 1, [(7, 3, 0, 0, 0)])

    def test_other_rows_stay(self):
        rows = [(1, 0, 0, 0, 0), (2, TOP, 0, 0, 0)]
        self.written([shift(1, 5)], rows, (2, 9, 1, 1, 1), 2, [rows[0], (2, 4, 1, 1, 1)])
        self.written([shift(1, 5)], rows, (3, 5, 1, 1, 1), 1, [*rows, (3, 0, 1, 1, 1)])

    def test_twice(self):
        self.written([shift(1, 5), shift(1, TOP)], [], (7, 10, 0, 0, 0), 1, [(7, 6, 0, 0, 0)])


class ThroughSeveralSteps(WriteCase):
    def test_shift_and_keep(self):
        steps = [shift(1, 5), keep(1, LESS, 10)]
        self.written(steps, [], (7, 9, 0, 0, 0), 1, [(7, 4, 0, 0, 0)])
        self.written(steps, [], (7, 0, 0, 0, 0), 1, [(7, TOP - 4, 0, 0, 0)])
        self.refused(steps, [], (7, 10, 0, 0, 0), -33)
        self.refused(steps, [(7, 5, 0, 0, 0)], (7, 9, 0, 0, 0), -17)

    def test_keep_and_shift(self):
        steps = [keep(1, LESS, 10), shift(1, 5)]
        self.written(steps, [], (7, 14, 0, 0, 0), 1, [(7, 9, 0, 0, 0)])
        self.refused(steps, [], (7, 15, 0, 0, 0), -33)
        self.refused(steps, [], (7, 4, 0, 0, 0), -33)
        self.refused(steps, [(7, 10, 0, 0, 0)], (7, 14, 0, 0, 0), -17)

    def test_keep_and_hide_the_same_column(self):
        self.written([keep(1, SAME, 5), hide(1, 5)], [], (7, 0, 2, 3, 4), 1, [(7, 5, 2, 3, 4)])
        self.refused([keep(1, SAME, 5), hide(1, 6)], [], (7, 0, 2, 3, 4), -33)
        self.written([keep(1, LESS, 9), hide(1, 9)], [(7, 8, 0, 0, 0)], (7, 0, 2, 3, 4), 2, [(7, 8, 2, 3, 4)])

    def test_keep_by_a_column_that_is_hidden_before(self):
        rows = [(1, 50, 0, 0, 0)]
        self.written([hide(1, 9), keep(1, LESS, 1)], rows, (7, 0, 2, 3, 4), 1, [rows[0], (7, 9, 2, 3, 4)])
        self.refused([hide(1, 9), keep(1, MORE, 0)], rows, (7, 0, 2, 3, 4), -33)
        self.refused([hide(1, 9), keep(1, MORE, 0)], rows, (7, 9, 2, 3, 4), -33)
        self.refused([hide(1, 9), keep(1, MORE, 0)], rows, (1, 9, 2, 3, 4), -17)

    def test_hide_and_shift(self):
        self.written([hide(1, 9), shift(1, 5)], [], (7, 5, 2, 3, 4), 1, [(7, 9, 2, 3, 4)])
        self.refused([hide(1, 9), shift(1, 5)], [], (7, 0, 2, 3, 4), -33)
        self.written([shift(1, 5), hide(1, 9)], [], (7, 0, 2, 3, 4), 1, [(7, 4, 2, 3, 4)])
        self.written([shift(1, 5), hide(1, 3)], [], (7, 0, 2, 3, 4), 1, [(7, TOP - 1, 2, 3, 4)])
        self.written([shift(1, 5), hide(1, 9)], [(7, 1, 0, 0, 0)], (7, 0, 2, 3, 4), 2, [(7, 1, 2, 3, 4)])

    def test_rows_left_out_by_either_step_stay(self):
        rows = [(1, 50, 5, 0, 0), (2, 5, 50, 0, 0), (3, 5, 5, 0, 0), (4, 50, 50, 0, 0)]
        steps = [keep(1, LESS, 10), keep(2, LESS, 10)]
        self.written(steps, rows, (3, 6, 6, 6, 6), 2, [rows[0], rows[1], (3, 6, 6, 6, 6), rows[3]])
        self.written(steps, rows, (0, 6, 6, 6, 6), 1, [(0, 6, 6, 6, 6), *rows])
        self.refused(steps, rows, (1, 6, 6, 6, 6), -17)
        self.refused(steps, rows, (2, 6, 6, 6, 6), -17)
        self.refused(steps, rows, (4, 6, 6, 6, 6), -17)
        self.refused(steps, rows, (0, 60, 6, 6, 6), -33)
        self.refused(steps, rows, (0, 6, 60, 6, 6), -33)

    def test_the_last_step_is_asked_first(self):
        steps = [keep(1, LESS, 10), keep(2, LESS, 10)]
        # -17 of the last step, -33 of the first.
        self.refused(steps, [(5, 3, 20, 0, 0)], (5, 50, 1, 0, 0), -17)
        # -33 of the last step, -17 of the first.
        self.refused(steps, [(5, 30, 20, 0, 0)], (5, 1, 50, 0, 0), -33)

    def test_the_last_step_is_asked_first_with_hide(self):
        # -17 of keep, the last step; -33 of hide.
        self.refused([hide(1), keep(2, LESS, 10)], [(5, 3, 20, 0, 0)], (5, 7, 1, 0, 0), -17)
        # -33 of hide, the last step; -17 of keep.
        self.refused([keep(2, LESS, 10), hide(1)], [(5, 3, 20, 0, 0)], (5, 7, 1, 0, 0), -33)
        self.refused([keep(2, LESS, 10), hide(1)], [(5, 3, 20, 0, 0)], (5, 0, 1, 0, 0), -17)

    def test_eight_steps(self):
        steps = [keep(0, MORE, 4), shift(1, 1), hide(2, 77), shift(1, 1), keep(1, OTHER, 2), shift(3, TOP), hide(4, 3),
                 shift(4, 8)]
        rows = [(4, 9, 9, 9, 9), (5, 0, 9, 9, 9), (6, 1, 9, 9, 9)]
        self.assertEqual(seen(1, *laid(steps, rows)), [(6, 3, 0, 8, 8)])
        self.written(steps, rows, (6, 4, 0, 0, 8), 2, [rows[0], rows[1], (6, 2, 9, 1, 9)])
        self.written(steps, rows, (7, 1, 0, 0, 8), 1, [*rows, (7, TOP, 77, 1, 3)])
        self.refused(steps, rows, (7, 2, 0, 0, 8), -33)
        self.refused(steps, rows, (7, 1, 1, 0, 8), -33)
        self.refused(steps, rows, (7, 1, 0, 0, 0), -33)
        self.refused(steps, rows, (3, 1, 0, 0, 8), -33)
        self.refused(steps, rows, (5, 1, 0, 0, 8), -17)


class Of256Rows(unittest.TestCase):
    """Keys 0, 2, .. 510; of column 1 every fourth row has 100, the others have 3."""

    def laid(self, *steps):
        rows = [(2 * place, 100 if place % 4 == 0 else 3, 1, 1, 1) for place in range(256)]
        return laid(steps, rows)

    def behind(self, steps, *calls):
        return told(*self.laid(*steps), *calls)[258:]

    def test_the_256th_is_taken(self):
        self.assertEqual(told(*self.laid(), many(0))[2:], [[1]] * 256 + [[256]])

    def test_the_257th(self):
        for key in (1, 255, 511, TOP):
            given = self.behind([], write(1, key, 3, 1, 1, 1), find(1, key), many(0), many(1), BACK, many(0))
            self.assertEqual(given, [[-28], [-2], [256], [256], [31], [255]], key)

    def test_a_row_in_place_of_another(self):
        given = self.behind([], write(1, 510, 7, 7, 7, 7), many(0), find(0, 510), write(1, 0, 8, 8, 8, 8), find(0, 0))
        self.assertEqual(given, [[2], [256], [0, 510, 7, 7, 7, 7], [2], [0, 0, 8, 8, 8, 8]])

    def test_a_row_that_is_there_already(self):
        self.assertEqual(self.behind([], write(1, 2, 3, 1, 1, 1), many(0), BACK), [[2], [256], [31]])

    def test_through_a_view_that_shows_some_of_them(self):
        given = self.behind([keep(1, LESS, 10)], many(1), write(1, 1, 3, 1, 1, 1), many(1), many(0), BACK)
        self.assertEqual(given, [[192], [-28], [192], [256], [31]])
        given = self.behind([keep(1, LESS, 10)], write(1, 2, 4, 1, 1, 1), many(0), find(0, 2))
        self.assertEqual(given, [[2], [256], [0, 2, 4, 1, 1, 1]])

    def test_through_a_view_that_shows_none_of_them(self):
        given = self.behind([keep(1, SAME, 7)], many(1), write(1, 1, 7, 1, 1, 1), many(1), many(0))
        self.assertEqual(given, [[0], [-28], [0], [256]])

    def test_through_hide_and_shift(self):
        for steps in ([hide(3, 9)], [shift(1, 3)], [hide(3, 9), shift(1, 3)], [shift(3, TOP)]):
            given = self.behind(steps, many(1), write(1, 1, 0, 0, 0, 0), write(1, 2, 8, 8, 0, 8), many(0))
            self.assertEqual(given, [[256], [-28], [2], [256]], steps)

    def test_33_comes_ahead_of_28(self):
        self.assertEqual(self.behind([keep(1, LESS, 10)], write(1, 1, 10, 1, 1, 1), many(0)), [[-33], [256]])
        self.assertEqual(self.behind([hide(1)], write(1, 1, 10, 1, 1, 1), many(0)), [[-33], [256]])
        steps = [keep(0, LESS, 600), shift(1, 1)]
        self.assertEqual(self.behind(steps, write(1, 601, 1, 1, 1, 1), many(0)), [[-33], [256]])

    def test_17_comes_ahead_of_28(self):
        self.assertEqual(self.behind([keep(1, LESS, 10)], write(1, 0, 3, 1, 1, 1), many(0)), [[-17], [256]])
        steps = [keep(1, LESS, 10), shift(1, 1)]
        self.assertEqual(self.behind(steps, write(1, 0, 4, 1, 1, 1), many(0)), [[-17], [256]])

    def test_room_again_behind_drop_and_back(self):
        new = write(1, 1, 3, 1, 1, 1)
        self.assertEqual(self.behind([], new, drop(1, 4), new, new, write(1, 3, 0, 0, 0, 0), many(0)),
                         [[-28], [0], [1], [2], [-28], [256]])
        self.assertEqual(self.behind([], BACK, new, many(0)), [[31], [1], [256]])


if __name__ == "__main__":
    unittest.main()
