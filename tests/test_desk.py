import unittest

from asking import BACK, BEGIN, TOP, asked, drop, find, firsts, joined, many, row, told, view, write
from viewstable.desk import Desk, UnknownCall, answers, answers_of


class Untouchable(list):
    """A list that can't be changed, not for a while either."""

    def refuse(self, *given, **named):
        raise AssertionError("what is handed in was changed")

    __setitem__ = __delitem__ = __iadd__ = __imul__ = refuse
    append = clear = extend = insert = pop = remove = reverse = sort = refuse


# One call of each kind, answered and refused.
ALL_KINDS = [
    BEGIN, view(), view(0, 1, 0, 9, 1, 2, 0, 7), view(3, 0, 0, 0), write(0, 4, 3, 2, 1, 0), write(1, 5, 8, 0, 1, 1),
    write(1, 5, 9, 0, 1, 1), write(2, 5, 9, 0, 1, 1), many(0), many(2), row(1, 0), row(1, 2), find(1, 5), find(0, 6),
    drop(1, 4), drop(1, 4), BACK, BACK, BACK, BACK]


class Form(unittest.TestCase):
    def test_no_calls(self):
        self.assertEqual(answers([]), [])

    def test_how_many_numbers_then_these(self):
        given = answers([0, 1, 0, 2, 0, 3, 0, 0, 1, 4, 0, 0, 0, 7, 2, 1, 2, 2])
        self.assertEqual(given, [1, 0, 1, 0, 1, 0, 1, -2, 1, 1, 1, 0, 1, -22])

    def test_a_row_is_answered_with_its_five_numbers(self):
        desk = Desk()
        desk.rows = [(3, 1, 2, 3, 4), (8, 5, 6, 7, TOP)]
        calls = view() + row(0, 1) + many(0) + row(0, 0) + row(0, 2)
        given = [1, 0, 6, 0, 8, 5, 6, 7, TOP, 1, 2, 6, 0, 3, 1, 2, 3, 4, 1, -2]
        self.assertEqual(answers_of(desk, calls), given)

    def test_the_calls_that_write(self):
        given = answers([1, 0, 5, 0, 5, 7, 1, 2, 3, 4, 4, 0, 7, 4, 0, 8, 6, 0, 7, 6, 0, 7, 7, 7, 7])
        self.assertEqual(given, [1, 0, 1, 1, 6, 0, 7, 1, 2, 3, 4, 1, -2, 1, 0, 1, -2, 1, 1, 1, 0, 1, -2])

    def test_all_kinds_of_calls(self):
        self.assertEqual(told(*ALL_KINDS), [
            [0], [0], [1], [-22], [1], [1], [-33], [-22], [2], [-22], [0, 4, 3, 0, 1, 0], [-2], [0, 5, 8, 0, 1, 1],
            [-2], [0], [-2], [2], [1], [0], [-2]])

    def test_nothing_is_changed_for_a_while_either(self):
        calls = Untouchable(joined(ALL_KINDS))
        self.assertEqual(answers(calls), asked(*ALL_KINDS))
        self.assertEqual(list(calls), joined(ALL_KINDS))

    def test_what_is_given_back_is_ones_own(self):
        calls = joined(ALL_KINDS)
        given = answers(calls)
        wanted = list(given)
        given.clear()
        self.assertEqual(answers(calls), wanted)

    def test_lists_one_behind_another(self):
        lists = [[BACK], [view(), many(0), BACK], [view(), write(0, 1, 1, 1, 1, 1), many(0)], ALL_KINDS, [],
                 [find(0, 4), drop(0, 4), write(0, 4, 0, 0, 0, 0), view(), find(0, 4), drop(0, 4)]]
        alone = [[[-2]], [[0], [0], [-2]], [[0], [1], [1]], told(*ALL_KINDS), [],
                 [[-22], [-22], [-22], [0], [-2], [-2]]]
        for order in (range(6), range(5, -1, -1), (3, 0, 3, 1, 2, 1, 2, 0, 5, 3, 5, 4, 0)):
            for place in order:
                self.assertEqual(told(*lists[place]), alone[place], (order, place))

    def test_what_is_handed_in_stays_as_it_was(self):
        calls = BEGIN + view(0, 0, 0, 5) + view(3, 0, 0, 5) + many(0) + row(0, 0)
        before = list(calls)
        answers(calls)
        self.assertEqual(calls, before)

    def test_whole_numbers_in_a_list(self):
        given = asked(BEGIN, view(9, 9, 9, 9), many(1), row(1, 0), *ALL_KINDS)
        self.assertEqual({type(number) for number in given}, {int})
        self.assertIs(type(given), list)

    def test_nothing_is_kept_from_one_time_to_the_next(self):
        self.assertEqual(firsts(view(), view()), [0, 1])
        self.assertEqual(firsts(many(0), view()), [-22, 0])

    def test_400_calls(self):
        step = [0, 0, 0, 0]
        wanted = list(range(16)) + [-28] * 184 + [-22] * 200
        self.assertEqual(firsts(*[view(*step * 8)] * 200, *[view(*step * 12)] * 200), wanted)

    def test_a_number_that_no_call_has(self):
        for number in (8, 9, TOP):
            with self.assertRaises(UnknownCall):
                answers([0, number])


class Begin(unittest.TestCase):
    def test_at_the_beginning(self):
        self.assertEqual(firsts(BEGIN), [0])

    def test_new_without_begin_as_behind_it(self):
        self.assertEqual(firsts(many(0), row(0, 0), view()), [-22, -22, 0])
        self.assertEqual(firsts(BEGIN, many(0), row(0, 0), view()), [0, -22, -22, 0])

    def test_behind_views(self):
        self.assertEqual(firsts(view(), view(), BEGIN, many(0), many(1), view(), many(0), many(1)),
                         [0, 1, 0, -22, -22, 0, 0, -22])

    def test_twice(self):
        self.assertEqual(firsts(BEGIN, BEGIN, view()), [0, 0, 0])

    def test_behind_16_views_there_is_room_for_16(self):
        sixteen = [view()] * 16
        self.assertEqual(firsts(*sixteen, BEGIN, *sixteen, view()),
                         [*range(16), 0, *range(16), -28])

    def test_no_rows_are_left(self):
        desk = Desk()
        desk.rows = [(3, 1, 2, 3, 4)]
        self.assertEqual(answers_of(desk, BEGIN + view() + many(0)), [1, 0, 1, 0, 1, 0])


class View(unittest.TestCase):
    def test_numbered_as_they_came(self):
        self.assertEqual(firsts(view(), view(0, 0, 0, 0), view(), view(1, 1, 0, 0)), [0, 1, 2, 3])

    def test_how_many_steps(self):
        step = [2, 4, 0, 1]
        for steps in range(13):
            wanted = 0 if steps <= 8 else -22
            self.assertEqual(firsts(view(*step * steps)), [wanted], steps)

    def test_each_step(self):
        for kind in (0, 1, 2, 3, TOP):
            for col in (0, 1, 2, 3, 4, 5, TOP):
                for how in (0, 1, 2, 3, 4, TOP):
                    keep = kind == 0 and col <= 4 and how <= 3
                    other = kind in (1, 2) and 1 <= col <= 4 and how == 0
                    wanted = 0 if keep or other else -22
                    for value in (0, 1, TOP):
                        self.assertEqual(firsts(view(kind, col, how, value)), [wanted], (kind, col, how, value))

    def test_the_last_of_8_steps_is_looked_at(self):
        self.assertEqual(firsts(view(*[0, 0, 0, 0] * 7, 2, 0, 0, 0)), [-22])

    def test_the_16th_and_the_17th(self):
        self.assertEqual(firsts(*[view()] * 17), [*range(16), -28])

    def test_a_17th_that_is_no_view(self):
        self.assertEqual(firsts(*[view()] * 16, view(3, 0, 0, 0), view(*[0, 0, 0, 0] * 9), view()),
                         [*range(16), -22, -22, -28])

    def test_what_is_no_view_takes_no_number(self):
        self.assertEqual(firsts(view(), view(3, 0, 0, 0), many(1), view(), many(1)), [0, -22, -22, 1, 0])

    def test_a_17th_takes_no_number_and_no_other_place(self):
        desk = Desk()
        desk.rows = [(1, 0, 0, 0, 0)]
        calls = view() * 16 + view(0, 0, 0, 0) + many(16) + many(15) + many(0)
        self.assertEqual(answers_of(desk, calls)[-8:], [1, -28, 1, -22, 1, 1, 1, 1])


class ManyAndRow(unittest.TestCase):
    def test_no_such_view(self):
        for number in (2, 3, 16, TOP):
            self.assertEqual(firsts(view(), view(), many(number), row(number, 0)), [0, 1, -22, -22], number)

    def test_no_such_view_behind_16(self):
        self.assertEqual(firsts(*[view()] * 16, many(15), many(16), row(15, 0), row(16, 0))[16:],
                         [0, -22, -2, -22])

    def test_a_table_without_rows(self):
        for numbers in ([], [0, 0, 3, 1], [1, 1, 0, 9], [2, 1, 0, 9]):
            self.assertEqual(firsts(view(*numbers), many(0), row(0, 0), row(0, 1), row(0, TOP)),
                             [0, 0, -2, -2, -2], numbers)

    def test_each_view_shows_its_own(self):
        desk = Desk()
        desk.rows = [(1, 10, 0, 0, 5), (2, 20, 0, 0, 5), (7, 30, 0, 0, 5)]
        taken = view() + view(0, 1, 2, 10, 1, 4, 0, 8) + view(0, 0, 0, 0)
        answers_of(desk, taken)
        self.assertEqual([desk.many(number) for number in range(4)], [[3], [2], [0], [-22]])
        self.assertEqual([desk.row(0, k) for k in range(4)],
                         [[0, 1, 10, 0, 0, 5], [0, 2, 20, 0, 0, 5], [0, 7, 30, 0, 0, 5], [-2]])
        self.assertEqual([desk.row(1, k) for k in (0, 1, 2, TOP)],
                         [[0, 2, 20, 0, 0, 0], [0, 7, 30, 0, 0, 0], [-2], [-2]])
        self.assertEqual(desk.row(2, 0), [-2])
        self.assertEqual(desk.row(3, 0), [-22])

    def test_reading_changes_nothing(self):
        desk = Desk()
        desk.rows = [(1, 10, 0, 0, 5)]
        calls = view(2, 1, 0, 1) + many(0) + row(0, 0)
        answers_of(desk, calls)
        self.assertEqual(desk.rows, [(1, 10, 0, 0, 5)])
        self.assertEqual(answers_of(desk, row(0, 0)), [6, 0, 1, 11, 0, 0, 5])


if __name__ == "__main__":
    unittest.main()
