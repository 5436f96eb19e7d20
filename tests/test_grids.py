"""Points 15 and 16, and 2, 3 and 4 as they bear on these."""

import unittest
from itertools import permutations, product

from ledhome.errors import NoThings, NoWeb
from ledhome.grids import grid_home, spread_columns
from ledhome.lines import line_home
from ledhome.webs import grid_web
from samples import GREAT, Case, many_things, moved_by, shuffled, turned

SHAPES = [(rows, columns) for rows, columns in product(range(1, 41), repeat=2) if rows * columns <= 40]
SMALL_SHAPES = [(1, 1), (1, 2), (2, 1), (1, 4), (4, 1), (2, 2), (1, 5), (5, 1), (2, 3), (3, 2)]

NO_TABLES = [
    [], [[]], [[], []], [[], [0]], [[0], []],
    # Numbers that are no columns.
    [[1]], [[-1]], [[GREAT]], [[0, 2]], [[-1, 0]], [[1, 2], [1, 2]], [[0, 1], [1, -1]], [[0, GREAT], [1, 0]],
    [[-GREAT, 0]],
    # Rows of other lengths, where each number stands as often as there are rows, too.
    [[0, 1], [0]], [[0], [0, 1]], [[0, 1], [0, 1, 1]], [[0, 0, 1], [1]], [[0, 1], [1, 0, 0], [1]], [[0], [0, 1], [1]],
    [[0, 1, 1], [0]], [[0, 1], [], [0, 1, 0, 1]], [[0, 0], [0], [0]], [[0, 1, 0], [1, 0], [1]],
    # A number too often.
    [[0, 0]], [[1, 1]], [[0, 1], [0, 0]], [[1, 1], [1, 1]], [[0, 1, 2], [2, 1, 1]], [[0, 0, 1, 1]],
    [[0, 1], [0, 1], [1, 1]],
]


def wrong_things(many):
    """What are no things of so many places."""
    home = list(range(many))
    yield from ([], home[1:], home[:-1], home + [many], home + [0], [place + 1 for place in home])
    yield from ([many] + home[1:], home[:-1] + [-1], home[:-1] + [GREAT], [-GREAT] + home[1:])
    if many > 1:
        yield from (home[:-1] + [0], [1] + home[1:], [0] * many)


class Point15(Case):
    def check_grid(self, rows, columns, things):
        doing = grid_home(rows, columns, things)
        self.check_leads_home(grid_web(rows, columns), things, doing)
        self.assertLessEqual(len(doing), 2 * rows + columns)
        self.assertNotIn([], doing)
        self.check_walks(rows, columns, things, doing)

    def check_walks(self, rows, columns, things, doing):
        """Each round is within columns alone or within rows alone, and those within rows follow one another.

        Within rows, and behind that within columns, each line goes by 14; and ahead of these the
        home columns in each row are unlike.
        """
        if columns == 1 or rows == 1:
            return
        within = [{other - one for one, other in exchanges} for exchanges in doing]
        self.assertTrue(all(step in ({1}, {columns}) for step in within), doing)
        if {1} not in within:
            return
        begin = within.index({1})
        end = begin + within.count({1})
        self.assertEqual(within[begin:end], [{1}] * (end - begin))
        behind = moved_by(things, doing[:begin])
        for row in range(rows):
            places = list(range(row * columns, row * columns + columns))
            self.check_line(places, [behind[place] % columns for place in places], doing[begin:end])
        behind = moved_by(behind, doing[begin:end])
        for column in range(columns):
            places = list(range(column, rows * columns, columns))
            self.check_line(places, [behind[place] // columns for place in places], doing[end:])

    def check_line(self, places, homes, walk):
        """The exchanges of a walk on one line are those of 14, all of them as early as can be."""
        self.assertEqual(sorted(homes), list(range(len(places))))
        due = [[(places[one], places[other]) for one, other in exchanges] for exchanges in line_home(homes)]
        told = [[pair for pair in exchanges if set(pair) <= set(places)] for exchanges in walk]
        self.assertEqual(told, due + [[]] * (len(walk) - len(due)))

    def test_grids_of_one_row(self):
        for columns in range(1, 41):
            for things in many_things(columns):
                self.check_list(grid_home(1, columns, things), line_home(things))

    def test_grids_of_one_column(self):
        for rows in range(1, 41):
            for things in many_things(rows):
                doing = grid_home(rows, 1, things)
                self.check_leads_home(grid_web(rows, 1), things, doing)
                self.assertLessEqual(len(doing), 2 * rows + 1)
                self.assertNotIn([], doing)

    def test_things_at_home(self):
        for rows, columns in SHAPES:
            self.check_list(grid_home(rows, columns, list(range(rows * columns))), [])

    def test_all_things_on_small_grids(self):
        for rows, columns in SMALL_SHAPES:
            for things in permutations(range(rows * columns)):
                self.check_grid(rows, columns, list(things))

    def test_grids_of_all_shapes(self):
        for rows, columns in SHAPES:
            for things in many_things(rows * columns):
                self.check_grid(rows, columns, things)

    def test_rows_and_columns_turned_about(self):
        # Place r, c holds what is at home at c, r: the home columns in each row are all alike.
        for many in range(1, 7):
            things = [column * many + row for row in range(many) for column in range(many)]
            self.check_grid(many, many, things)

    def test_columns_that_hold_the_things_of_one_row(self):
        for rows, columns in SHAPES:
            things = [column * rows + row for row in range(rows) for column in range(columns)]
            self.check_grid(rows, columns, things)

    def test_a_walk_is_as_long_as_the_longest_of_its_lines(self):
        # One row from behind, the others at home; one column from behind, the others at home.
        things = [3, 2, 1, 0] + list(range(4, 16))
        self.assertEqual(len(grid_home(4, 4, things)), 4)
        things = [12, 1, 2, 3, 8, 5, 6, 7, 4, 9, 10, 11, 0, 13, 14, 15]
        self.assertEqual(len(grid_home(4, 4, things)), 4)

    def test_no_rows_or_columns(self):
        for wrong in [0, -1, -2, -GREAT]:
            for right in [1, 2, 3, GREAT]:
                for things in [[], [0], [0, 1], [1, 1]]:
                    self.check_refused(NoWeb, grid_home, wrong, right, things)
                    self.check_refused(NoWeb, grid_home, right, wrong, things)
            for other in [0, -1, -2, -GREAT]:
                for things in [[], [0], list(range(max(0, wrong * other % 9)))]:
                    self.check_refused(NoWeb, grid_home, wrong, other, things)
        self.check_refused(NoWeb, grid_home, -2, -2, [0, 1, 2, 3])
        self.check_refused(NoWeb, grid_home, -1, -1, [0])

    def test_no_things(self):
        for rows, columns in [(1, 1), (1, 3), (3, 1), (2, 2), (2, 3), (3, 2), (5, 8), (4, 10)]:
            for things in wrong_things(rows * columns):
                self.check_refused(NoThings, grid_home, rows, columns, things)
        self.check_refused(NoThings, grid_home, GREAT, GREAT, [0])
        self.check_refused(NoThings, grid_home, 1, GREAT, [])
        self.check_refused(NoThings, grid_home, GREAT, 1, [1, 0])

    def test_what_is_handed_in_stays_and_each_list_is_new(self):
        for rows, columns in [(1, 1), (1, 4), (4, 1), (2, 3), (5, 8)]:
            for things in many_things(rows * columns):
                self.told_by(grid_home, rows, columns, things)

    def test_what_was_handed_in_is_not_kept(self):
        things = [1, 0, 2, 3]
        told = grid_home(2, 2, things)
        things[:] = [0, 1, 3, 2]
        self.assertEqual(told, [[(0, 1)]])
        self.assertEqual(grid_home(2, 2, things), [[(2, 3)]])


class Point16(Case):
    def check_table(self, table):
        rows, columns = len(table), len(table[0])
        orders = spread_columns(table)
        self.assertIs(orders.__class__, list)
        self.assertEqual(len(orders), columns)
        behind = [[None] * columns for _ in table]
        for column, order in enumerate(orders):
            self.assertIs(order.__class__, list)
            self.assertEqual({row.__class__ for row in order}, {int})
            self.assertEqual(sorted(order), list(range(rows)))
            for row, goal in enumerate(order):
                behind[goal][column] = table[row][column]
        for row in behind:
            self.assertEqual(sorted(row), list(range(columns)))

    def test_all_small_tables(self):
        for rows, columns in [(1, 1), (1, 3), (3, 1), (2, 2), (2, 3), (3, 2), (4, 2)]:
            numbers = list(range(columns)) * rows
            for order in set(permutations(numbers)):
                self.check_table([list(order[row * columns:][:columns]) for row in range(rows)])

    def test_tables_of_all_shapes(self):
        for rows, columns in SHAPES:
            numbers = list(range(columns)) * rows
            orders = [numbers, sorted(numbers), numbers[::-1], sorted(numbers)[::-1], turned(sorted(numbers), 1)]
            for order in orders + [shuffled(numbers, seed) for seed in range(8)]:
                self.check_table([order[row * columns:][:columns] for row in range(rows)])

    def test_columns_of_like_numbers(self):
        for rows, columns in SHAPES:
            for by in range(columns):
                self.check_table([turned(list(range(columns)), by) for _ in range(rows)])

    def test_one_list_at_several_rows(self):
        self.check_table([[1, 0, 2]] * 3)

    def test_refused(self):
        for table in NO_TABLES:
            self.check_refused(NoThings, spread_columns, table)

    def test_just_the_tables_are_let_by(self):
        rows = [list(row) for many in range(3) for row in product(range(-1, 3), repeat=many)]
        for many in range(3):
            for table in product(rows, repeat=many):
                table = [list(row) for row in table]
                length = len(table[0]) if table else 0
                numbers = sorted(number for row in table for number in row)
                right = {len(row) for row in table} == {length} and length > 0
                if right and numbers == sorted(list(range(length)) * many):
                    self.check_table(table)
                else:
                    self.check_refused(NoThings, spread_columns, table)

    def test_what_is_handed_in_stays_and_each_list_is_new(self):
        for table in [[[0]], [[1, 0]], [[0], [0], [0]], [[0, 0], [1, 1]], [[2, 2, 2], [0, 1, 0], [1, 0, 1]]]:
            self.told_by(spread_columns, table)

    def test_what_was_handed_in_is_not_kept(self):
        table = [[0, 0], [1, 1]]
        told = spread_columns(table)
        self.assertNotEqual(told[0], told[1])
        table[1] = [1, 0]
        table[0] = [0, 1]
        kept = [list(order) for order in told]
        self.assertEqual(spread_columns(table)[0], spread_columns(table)[1])
        self.assertEqual(told, kept)


if __name__ == "__main__":
    unittest.main()
