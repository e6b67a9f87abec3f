import unittest

from asking import MORE, TOP, find, firsts, hide, keep, shift, through, told, view, write

ROWS = [write(0, 20, 1, 2, 3, 4), write(0, 10, 5, 6, 7, 8), write(0, 30, TOP, 0, 0, 9)]


def found(steps, key):
    return told(view(), through(*steps), *ROWS, find(1, key))[-1]


class Find(unittest.TestCase):
    def test_no_such_view(self):
        self.assertEqual(firsts(find(0, 0)), [-22])
        for number in (2, 3, 16, TOP):
            self.assertEqual(told(view(), view(), *ROWS, find(number, 20))[-1], [-22], number)

    def test_no_such_row(self):
        self.assertEqual(firsts(view(), find(0, 0)), [0, -2])
        for key in (0, 1, 9, 11, 19, 21, TOP):
            self.assertEqual(found([], key), [-2], key)

    def test_a_key_is_not_the_place_of_a_row(self):
        for key in (0, 1, 2):
            self.assertEqual(found([], key), [-2], key)

    def test_each_row_by_its_key(self):
        self.assertEqual(found([], 10), [0, 10, 5, 6, 7, 8])
        self.assertEqual(found([], 20), [0, 20, 1, 2, 3, 4])
        self.assertEqual(found([], 30), [0, 30, TOP, 0, 0, 9])

    def test_first_and_last_key(self):
        rows = [write(0, 0, 1, 1, 1, 1), write(0, TOP, 2, 2, 2, 2)]
        self.assertEqual(told(view(), *rows, find(0, 0), find(0, TOP))[-2:], [[0, 0, 1, 1, 1, 1], [0, TOP, 2, 2, 2, 2]])

    def test_a_row_that_the_view_leaves_out(self):
        self.assertEqual(found([keep(0, MORE, 10)], 10), [-2])
        self.assertEqual(found([keep(0, MORE, 10)], 20), [0, 20, 1, 2, 3, 4])
        self.assertEqual(found([keep(1, MORE, 1)], 20), [-2])
        self.assertEqual(found([keep(1, MORE, 1)], 10), [0, 10, 5, 6, 7, 8])

    def test_a_view_that_keeps_nothing(self):
        for key in (10, 20, 30):
            self.assertEqual(found([keep(0, 0, 0)], key), [-2], key)

    def test_hidden_columns(self):
        self.assertEqual(found([hide(1, 9)], 20), [0, 20, 0, 2, 3, 4])
        self.assertEqual(found([hide(4), hide(2)], 20), [0, 20, 1, 0, 3, 0])

    def test_shifted_columns(self):
        self.assertEqual(found([shift(1, 10)], 20), [0, 20, 11, 2, 3, 4])
        self.assertEqual(found([shift(1, 10)], 30), [0, 30, 9, 0, 0, 9])

    def test_shifted_kept_and_hidden(self):
        steps = [shift(1, 10), keep(1, MORE, 10), hide(3), shift(3, 7)]
        self.assertEqual(found(steps, 20), [0, 20, 11, 2, 7, 4])
        self.assertEqual(found(steps, 30), [-2])

    def test_finding_changes_nothing(self):
        given = told(view(), *ROWS, find(0, 20), find(0, 7), find(0, 20), [7])
        self.assertEqual(given[4:], [[0, 20, 1, 2, 3, 4], [-2], [0, 20, 1, 2, 3, 4], [2]])


if __name__ == "__main__":
    unittest.main()
