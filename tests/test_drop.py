import unittest

from asking import BACK, LESS, MORE, TOP, drop, find, firsts, hide, keep, many, seen, shift, through, told, view, write

ROWS = [(10, 5, 6, 7, 8), (20, 1, 2, 3, 4), (30, TOP, 0, 0, 9)]


def laid(*steps):
    return [view(), through(*steps), *[write(0, *row) for row in ROWS]]


class Drop(unittest.TestCase):
    def dropped(self, steps, key, table):
        calls = [*laid(*steps), drop(1, key)]
        self.assertEqual(told(*calls)[-1], [0])
        self.assertEqual(seen(0, *calls), table)

    def refused(self, steps, key):
        calls = [*laid(*steps), drop(1, key)]
        self.assertEqual(told(*calls)[-1], [-2])
        self.assertEqual(seen(0, *calls), ROWS)
        self.assertEqual(told(*calls, BACK)[-1], [2])

    def test_no_such_view(self):
        self.assertEqual(firsts(drop(0, 0)), [-22])
        for number in (2, 3, 16, TOP):
            calls = [*laid(), drop(number, 20)]
            self.assertEqual(told(*calls)[-1], [-22], number)
            self.assertEqual(seen(0, *calls), ROWS)
            self.assertEqual(told(*calls, BACK)[-1], [2])

    def test_no_such_row(self):
        self.assertEqual(firsts(view(), drop(0, 0), BACK), [0, -2, -2])
        for key in (0, 1, 2, 9, 11, 31, TOP):
            self.refused([], key)

    def test_each_row(self):
        self.dropped([], 10, [ROWS[1], ROWS[2]])
        self.dropped([], 20, [ROWS[0], ROWS[2]])
        self.dropped([], 30, [ROWS[0], ROWS[1]])

    def test_the_last_row_that_is_there(self):
        for key in (0, TOP):
            calls = [view(), write(0, key, 1, 2, 3, 4), drop(0, key), many(0), find(0, key), drop(0, key)]
            self.assertEqual(firsts(*calls)[2:], [0, 0, -2, -2])

    def test_a_row_that_the_view_leaves_out(self):
        self.refused([keep(0, MORE, 10)], 10)
        self.refused([keep(1, MORE, 1)], 20)
        self.refused([shift(1, 1), keep(1, MORE, 0)], 30)
        self.refused([hide(1), keep(1, MORE, 0)], 10)
        self.refused([keep(0, LESS, 0)], 10)

    def test_through_keep_what_is_left_out_stays(self):
        self.dropped([keep(1, LESS, 6)], 10, [ROWS[1], ROWS[2]])
        self.dropped([keep(1, LESS, 6)], 20, [ROWS[0], ROWS[2]])
        self.dropped([keep(0, MORE, 20)], 30, [ROWS[0], ROWS[1]])
        self.dropped([keep(0, MORE, 10), keep(1, LESS, 6)], 20, [ROWS[0], ROWS[2]])

    def test_through_hide_the_others_keep_what_they_have(self):
        self.dropped([hide(1, 99)], 20, [ROWS[0], ROWS[2]])
        self.dropped([hide(4, 99), hide(2, 98), hide(2, 97)], 10, [ROWS[1], ROWS[2]])

    def test_through_shift_the_others_stay(self):
        self.dropped([shift(1, 7)], 10, [ROWS[1], ROWS[2]])
        self.dropped([shift(1, TOP), shift(4, 3)], 20, [ROWS[0], ROWS[2]])

    def test_through_several_steps(self):
        steps = [shift(1, 1), keep(1, MORE, 0), hide(1, 50), keep(1, LESS, 1), hide(3, 51), shift(3, 9)]
        self.dropped(steps, 10, [ROWS[1], ROWS[2]])
        self.dropped(steps, 20, [ROWS[0], ROWS[2]])
        self.refused(steps, 30)

    def test_it_is_gone_for_every_view(self):
        calls = [*laid(hide(1)), through(keep(1, LESS, 2)), drop(2, 20)]
        self.assertEqual(told(*calls, find(0, 20), find(1, 20), find(2, 20))[-3:], [[-2], [-2], [-2]])
        self.assertEqual(told(*calls, many(0), many(1), many(2))[-3:], [[2], [2], [0]])

    def test_twice(self):
        self.assertEqual(told(*laid(), drop(1, 20), drop(1, 20), drop(0, 20))[-3:], [[0], [-2], [-2]])


if __name__ == "__main__":
    unittest.main()
