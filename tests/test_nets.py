"""fleethide.nets: promises 14 and 15, and 2 and 3 where they speak of them."""

import itertools
import unittest

import helper
from fleethide.nets import is_net, least_net, lie_apart, net_of

SIDES = [1, 2, 7, 19, 30, 41, 59, 60]
SOME_LENGTHS = [1, 2, 3, 4, 7, 11, 16, 23, 29, 30, 31, 40, 41, 47, 58, 59, 60]


def told_least(rows, columns, length):
    """How many cells a least net has, by the document's words."""
    if length > rows and length > columns:
        return 0
    if length > rows:
        return rows * (columns // length)
    if length > columns:
        return columns * (rows // length)
    a, b = rows % length, columns % length
    less = a * b if a + b <= length else (length - a) * (length - b)
    whole, rest = divmod(rows * columns - less, length)
    assert rest == 0
    return whole


def met(ships, cells):
    """Whether each of the ships has one of the cells."""
    taken = set(cells)
    return all(helper.body(ship) & taken for ship in ships)


def counted_least(rows, columns, length):
    """How many cells a least net has, by going through all sets of cells."""
    cells = helper.grid((rows, columns))
    ships = helper.all_ships((rows, columns), length)
    for many in range(len(cells) + 1):
        if any(met(ships, taken) for taken in itertools.combinations(cells, many)):
            return many


class NetTest(unittest.TestCase):
    def check(self, rows, columns, length):
        told = net_of(rows, columns, length)
        self.assertIs(type(told), tuple)
        cells, ships = told
        where = (rows, columns, length)
        all_ships = helper.all_ships((rows, columns), length)
        self.assertEqual([type(cells), type(ships)], [list, list])
        self.assertEqual(cells, sorted(set(cells)), where)
        self.assertLessEqual(set(cells), set(helper.grid((rows, columns))), where)
        self.assertTrue(met(all_ships, cells), where)
        self.assertEqual(ships, sorted(set(ships)), where)
        self.assertLessEqual(set(ships), set(all_ships), where)
        self.assertEqual(len(set().union(*[helper.body(ship) for ship in ships])), len(ships) * length, where)
        self.assertEqual(len(cells), len(ships), where)
        self.assertEqual(least_net(rows, columns, length), len(cells), where)
        self.assertIs(is_net(rows, columns, length, cells), True, where)
        self.assertIs(lie_apart(ships), True, where)


class NetOfTest(NetTest):
    def test_of_small_sheets(self):
        for rows, columns, length in itertools.product(range(1, 12), range(1, 12), range(1, 14)):
            self.check(rows, columns, length)

    def test_up_to_60(self):
        sides = itertools.product(SIDES, SIDES)
        for turn, (rows, columns) in enumerate(sides):
            for length in SOME_LENGTHS[turn % 4::4] + [min(rows, columns), max(rows, columns)]:
                self.check(rows, columns, length)

    def test_of_all_lengths(self):
        for length in range(1, 61):
            self.check(length, 59, length)
            self.check(60, 37, length)

    def test_where_the_rests_come_to_the_length_and_to_one_more(self):
        for length in [2, 3, 5, 8, 13, 21]:
            for rest in range(1, length):
                self.check(length + rest, 2 * length - rest, length)
                self.check(2 * length - rest, length + min(rest + 1, length - 1), length)

    def test_somewhat_beyond(self):
        for rows, columns, length in [(61, 62, 7), (64, 61, 61), (63, 3, 62), (60, 60, 61), (60, 60, 100), (8, 64, 64)]:
            self.check(rows, columns, length)

    def test_no_ships_no_cells(self):
        for rows, columns, length in [(1, 1, 2), (3, 5, 6), (59, 59, 60), (1, 59, 60)]:
            self.assertEqual(net_of(rows, columns, length), ([], []))

    def test_length_1(self):
        self.assertEqual(net_of(2, 2, 1), (helper.grid((2, 2)), [(row, column, "along", 1) for row, column in
                                                                 helper.grid((2, 2))]))

    def test_by_name_and_unchanged(self):
        helper.check_call(self, net_of, "rows columns length", [5, 5, 3])
        helper.check_call(self, net_of, "rows columns length", [2, 3, 4])


class LeastNetTest(unittest.TestCase):
    def test_of_all(self):
        for rows, columns, length in itertools.product(range(1, 61), range(1, 61), range(1, 61)):
            if least_net(rows, columns, length) != told_least(rows, columns, length):
                self.fail((rows, columns, length))

    def test_no_set_of_fewer_cells_is_a_net(self):
        for rows, columns in [(1, 1), (1, 6), (6, 1), (2, 2), (2, 5), (3, 3), (4, 3), (3, 4), (4, 4)]:
            for length in range(1, 8):
                if rows * columns < 12 or length > 2:
                    self.assertEqual(least_net(rows, columns, length), counted_least(rows, columns, length))

    def test_written_out(self):
        for values, many in [((1, 1, 1), 1), ((60, 60, 1), 3600), ((60, 60, 60), 60), ((8, 8, 3), 21), ((5, 5, 3), 8),
                             ((4, 4, 3), 5), ((10, 10, 4), 24), ((7, 7, 4), 12), ((3, 60, 7), 24), ((60, 3, 7), 24),
                             ((59, 59, 60), 0), ((1, 60, 60), 1), ((60, 1, 31), 1), ((59, 59, 30), 116)]:
            self.assertEqual(least_net(*values), many, values)

    def test_by_name_and_unchanged(self):
        helper.check_call(self, least_net, "rows columns length", [8, 7, 3])


class IsNetTest(unittest.TestCase):
    def test_of_all_sets_of_cells(self):
        for rows, columns in [(1, 1), (1, 5), (5, 1), (2, 3), (3, 2), (3, 3), (2, 5)]:
            cells = helper.grid((rows, columns))
            for length in range(1, 7):
                ships = helper.all_ships((rows, columns), length)
                for many in range(len(cells) + 1):
                    for taken in itertools.combinations(cells[::-1], many):
                        same = met(ships, taken)
                        self.assertIs(is_net(rows, columns, length, list(taken)), same, (rows, columns, length, taken))

    def test_a_cell_less_and_a_cell_more(self):
        for rows, columns, length in [(5, 5, 3), (8, 7, 4), (60, 59, 7), (3, 60, 9), (60, 60, 60), (31, 44, 23)]:
            cells = net_of(rows, columns, length)[0]
            others = [cell for cell in helper.grid((rows, columns)) if cell not in cells]
            for at in range(0, len(cells), 1 + len(cells) // 9):
                self.assertIs(is_net(rows, columns, length, cells[:at] + cells[at + 1:]), False)
            self.assertIs(is_net(rows, columns, length, others[:3] + cells), True)
            self.assertIs(is_net(rows, columns, length, cells[::-1]), True)
            self.assertIs(is_net(rows, columns, length, helper.grid((rows, columns))), True)

    def test_cells_are_of_the_sheet_and_unlike(self):
        for rows, columns, length in [(5, 5, 3), (8, 7, 4), (60, 59, 7), (2, 2, 9)]:
            cells = net_of(rows, columns, length)[0] or [(1, 1)]
            off = [(rows, 0), (0, columns), (-1, 0), (0, -1), (rows, columns), (helper.LONG, 0), (0, -helper.LONG)]
            for cell in off:
                self.assertIs(is_net(rows, columns, length, cells + [cell]), False)
                self.assertIs(is_net(rows, columns, length, [cell]), False)
            for cell in [cells[0], cells[-1]]:
                self.assertIs(is_net(rows, columns, length, cells + [cell]), False)

    def test_a_cell_off_the_sheet_meets_no_ship(self):
        self.assertIs(is_net(2, 2, 2, [(0, 0), (1, 1)]), True)
        self.assertIs(is_net(2, 2, 2, [(0, 0), (-1, -1)]), False)

    def test_where_there_are_no_ships(self):
        self.assertIs(is_net(2, 3, 4, []), True)
        self.assertIs(is_net(2, 3, 4, [(1, 2), (0, 0)]), True)
        self.assertIs(is_net(2, 3, 4, [(1, 2), (1, 2)]), False)
        self.assertIs(is_net(2, 3, 4, [(2, 1)]), False)
        self.assertIs(is_net(59, 59, 60, []), True)
        self.assertIs(is_net(60, 59, 60, []), False)
        self.assertIs(is_net(59, 60, 60, []), False)

    def test_by_name_and_unchanged(self):
        helper.check_call(self, is_net, "rows columns length cells", [2, 2, 2, [(1, 1), (0, 0)]])
        helper.check_call(self, is_net, "rows columns length cells", [2, 2, 2, [(1, 1), (2, 0)]])


class LieApartTest(unittest.TestCase):
    def test_of_two_ships(self):
        for sheet, length in [((1, 3), 1), ((3, 3), 2), ((4, 5), 3), ((1, 9), 4)]:
            ships = helper.all_ships(sheet, length)
            for one, other in itertools.product(ships, ships):
                self.assertIs(lie_apart([one, other]), not helper.body(one) & helper.body(other), (one, other))

    def test_of_more(self):
        ships = net_of(60, 59, 7)[1]
        self.assertIs(lie_apart(ships[::-1]), True)
        for at in [0, 100, len(ships) - 1]:
            self.assertIs(lie_apart(ships + [ships[at]]), False)
            row, column, way, length = ships[at]
            self.assertIs(lie_apart([(row, column, "along", 7), (row, column, "down", 7)] + ships[:at]), False)

    def test_of_few(self):
        self.assertIs(lie_apart([]), True)
        self.assertIs(lie_apart([(3, 0, "along", 60)]), True)
        self.assertIs(lie_apart([(3, 0, "along", 60), (0, 59, "down", 60)]), False)
        self.assertIs(lie_apart([(3, 0, "along", 60), (4, 0, "along", 60)]), True)
        self.assertIs(lie_apart([(3, 0, "along", 60), (3, 0, "along", 60)]), False)

    def test_by_name_and_unchanged(self):
        helper.check_call(self, lie_apart, "ships", [[(1, 0, "along", 2), (0, 0, "along", 2)]])


if __name__ == "__main__":
    unittest.main()
