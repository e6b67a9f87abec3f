import unittest

from asking import BACK, BEGIN, LESS, MORE, TOP, drop, find, firsts, hide, keep, many, row, seen, shift, through, told
from asking import view, write

VIEWS = [view(), through(keep(1, LESS, 10)), through(hide(2, 7)), through(shift(1, 5), keep(1, MORE, 9))]

ROWS = [write(0, 20, 1, 2, 3, 4), write(0, 10, 5, 6, 7, 8), write(0, 30, TOP, 0, 0, 9)]


def looks(*calls):
    return [seen(number, *calls) for number in range(len(VIEWS))]


class Back(unittest.TestCase):
    def test_no_change_is_kept(self):
        self.assertEqual(firsts(BACK), [-2])
        self.assertEqual(firsts(BEGIN, BACK, BACK), [0, -2, -2])
        self.assertEqual(firsts(view(), BACK, many(0)), [0, -2, 0])

    def test_behind_a_write(self):
        self.assertEqual(firsts(view(), write(0, 1, 2, 3, 4, 5), BACK, many(0), BACK), [0, 1, 0, 0, -2])

    def test_behind_a_write_in_place_of_a_row(self):
        calls = [view(), write(0, 1, 2, 3, 4, 5), write(0, 1, 6, 7, 8, 9), BACK, find(0, 1), BACK, find(0, 1), BACK]
        self.assertEqual(told(*calls)[3:], [[1], [0, 1, 2, 3, 4, 5], [0], [-2], [-2]])

    def test_behind_a_drop(self):
        calls = [view(), write(0, 1, 2, 3, 4, 5), drop(0, 1), BACK, find(0, 1), BACK, many(0), BACK]
        self.assertEqual(told(*calls)[2:], [[0], [1], [0, 1, 2, 3, 4, 5], [0], [0], [-2]])

    def test_as_it_was_for_every_view(self):
        before = [*VIEWS, *ROWS]
        changes = [write(0, 20, 50, 50, 50, 50), write(1, 40, 9, 9, 9, 9), write(2, 10, 8, 0, 8, 8),
                   write(2, 11, 8, 0, 8, 8), write(3, 10, 11, 1, 1, 1), drop(0, 30), drop(1, 20), drop(2, 10),
                   drop(3, 10)]
        for change in changes:
            self.assertNotEqual(looks(*before, change), looks(*before), change)
            self.assertEqual(looks(*before, change, BACK), looks(*before), change)
            self.assertEqual(told(*before, change, BACK)[-1], [3], change)

    def test_change_by_change(self):
        changes = [*ROWS, drop(1, 20), write(2, 10, 8, 0, 8, 8), write(1, 20, 1, 1, 1, 1), drop(3, 10)]
        for taken in range(len(changes) + 1):
            left = len(changes) - taken
            backs = [BACK] * taken
            self.assertEqual(looks(*VIEWS, *changes, *backs), looks(*VIEWS, *changes[:left]), taken)
            self.assertEqual(told(*VIEWS, *changes, *backs)[len(VIEWS) + len(changes):],
                             [[kept] for kept in range(len(changes) - 1, left - 1, -1)])

    def test_taking_back_is_no_change(self):
        calls = [*VIEWS, ROWS[0], ROWS[1], BACK, ROWS[2], BACK, BACK, BACK]
        self.assertEqual([part[0] for part in told(*calls)[len(VIEWS):]], [1, 1, 1, 1, 1, 0, -2])

    def test_what_was_taken_back_is_gone_behind_another_change(self):
        calls = [*VIEWS, ROWS[0], ROWS[1], BACK, ROWS[2]]
        self.assertEqual(looks(*calls), looks(*VIEWS, ROWS[0], ROWS[2]))
        self.assertEqual(looks(*calls, BACK), looks(*VIEWS, ROWS[0]))

    def test_a_table_as_before_the_one_before_is_kept(self):
        calls = [view(), write(0, 1, 2, 3, 4, 5), drop(0, 1), write(0, 1, 2, 3, 4, 5), BACK, BACK, BACK, BACK]
        self.assertEqual(firsts(*calls)[4:], [2, 1, 0, -2])

    def test_written_what_is_there_already(self):
        same = [write(0, 10, 5, 6, 7, 8), write(1, 10, 5, 6, 7, 8), write(2, 10, 5, 0, 7, 8), write(3, 10, 10, 6, 7, 8)]
        for call in same:
            calls = [*VIEWS, *ROWS, call, call]
            self.assertEqual(told(*calls)[-2:], [[2], [2]], call)
            self.assertEqual(told(*calls, BACK)[-1], [2], call)
            self.assertEqual(looks(*calls, BACK), looks(*VIEWS, *ROWS[:2]))

    def test_one_column_written_otherwise_is_a_change(self):
        for col in range(1, 5):
            other = [10, 5, 6, 7, 8]
            other[col] += 1
            self.assertEqual(told(*VIEWS, *ROWS, write(0, *other), BACK)[-2:], [[2], [3]], col)

    def test_refusals_are_no_changes(self):
        refused = [write(4, 1, 1, 1, 1, 1), write(1, 1, 10, 1, 1, 1), write(1, 30, 1, 1, 1, 1), write(2, 1, 1, 1, 1, 1),
                   drop(4, 10), drop(0, 11), drop(1, 30), view(3, 0, 0, 0)]
        given = told(*VIEWS, *ROWS, *refused, BACK)
        self.assertEqual(given[-9:], [[-22], [-33], [-17], [-33], [-22], [-2], [-2], [-22], [2]])
        self.assertEqual(looks(*VIEWS, *ROWS, *refused, BACK), looks(*VIEWS, *ROWS[:2]))

    def test_reading_is_no_change(self):
        self.assertEqual(told(*VIEWS, *ROWS, many(1), row(1, 0), find(1, 10), BACK)[-1], [2])

    def test_the_views_stay_as_they_are(self):
        calls = [view(), write(0, 1, 2, 3, 4, 5), through(shift(1, 1)), BACK, many(0), many(1), view(),
                 write(1, 1, 2, 3, 4, 5), find(0, 1), BACK, many(2), many(3)]
        self.assertEqual(told(*calls),
                         [[0], [1], [1], [0], [0], [0], [2], [1], [0, 1, 1, 3, 4, 5], [0], [0], [-22]])

    def test_a_view_is_no_change(self):
        self.assertEqual(firsts(view(), write(0, 1, 2, 3, 4, 5), view(), view(), BACK, BACK)[-2:], [0, -2])


class ManyChanges(unittest.TestCase):
    def changes(self, number):
        return [view(), *[write(0, key, 1, 1, 1, 1) for key in range(number)]]

    def backs(self, *calls):
        return firsts(*calls, *[BACK] * 34)[len(calls):]

    def test_up_to_32(self):
        for number in (1, 2, 31, 32):
            self.assertEqual(self.backs(*self.changes(number)), [*range(number - 1, -1, -1)] + [-2] * (34 - number))
            self.assertEqual(seen(0, *self.changes(number), *[BACK] * 34), [])

    def test_of_33_the_oldest_goes(self):
        calls = self.changes(33)
        self.assertEqual(self.backs(*calls), [*range(31, -1, -1), -2, -2])
        for taken in range(33):
            self.assertEqual(seen(0, *calls, *[BACK] * taken), [(key, 1, 1, 1, 1) for key in range(33 - taken)], taken)
        self.assertEqual(seen(0, *calls, *[BACK] * 33), [(0, 1, 1, 1, 1)])

    def test_of_100(self):
        calls = self.changes(100)
        self.assertEqual(self.backs(*calls), [*range(31, -1, -1), -2, -2])
        self.assertEqual(seen(0, *calls, *[BACK] * 34), [(key, 1, 1, 1, 1) for key in range(68)])

    def test_33_with_drops(self):
        calls = [*self.changes(20), *[drop(0, key) for key in range(13)]]
        self.assertEqual(self.backs(*calls), [*range(31, -1, -1), -2, -2])
        self.assertEqual(seen(0, *calls, *[BACK] * 34), [(0, 1, 1, 1, 1)])

    def test_what_is_no_change_pushes_none_out(self):
        calls = [*self.changes(32), write(0, 31, 1, 1, 1, 1), drop(0, 32), write(1, 32, 1, 1, 1, 1)]
        self.assertEqual(self.backs(*calls), [*range(31, -1, -1), -2, -2])
        self.assertEqual(seen(0, *calls, *[BACK] * 34), [])

    def test_room_behind_back(self):
        calls = [*self.changes(33), BACK, write(0, 90, 1, 1, 1, 1)]
        self.assertEqual(self.backs(*calls), [*range(31, -1, -1), -2, -2])
        self.assertEqual(seen(0, *calls, *[BACK] * 34), [(0, 1, 1, 1, 1)])


class BackAndBegin(unittest.TestCase):
    def test_behind_begin_no_change_is_kept(self):
        self.assertEqual(firsts(view(), write(0, 1, 2, 3, 4, 5), BEGIN, BACK, view(), many(0)), [0, 1, 0, -2, 0, 0])

    def test_begin_with_an_empty_table_behind_changes(self):
        self.assertEqual(firsts(view(), write(0, 1, 2, 3, 4, 5), drop(0, 1), BEGIN, BACK), [0, 1, 0, 0, -2])

    def test_only_what_came_behind_begin_is_taken_back(self):
        calls = [view(), write(0, 1, 2, 3, 4, 5), write(0, 2, 2, 3, 4, 5), BEGIN, view(), write(0, 3, 2, 3, 4, 5)]
        self.assertEqual(seen(0, *calls), [(3, 2, 3, 4, 5)])
        self.assertEqual(firsts(*calls, BACK, many(0), BACK, many(0))[-4:], [0, 0, -2, 0])


if __name__ == "__main__":
    unittest.main()
