import unittest

from tests.helper import HIGHEST, ask_all, begins, last, may, report, sees, tower

EIGHT = ((1, 0), (1, 1), (0, 1), (-1, 1), (-1, 0), (-1, -1), (0, -1), (1, -1))


def told(wide, high, *calls):
    """What the first of the towers tells after these calls, cell by cell."""
    cells = range(wide * high)
    return [last(begins(wide, high), *calls, sees(0, cell)) for cell in cells]


def told_numbers(wide, high, one_tower):
    return [numbers[0] for numbers in told(wide, high, one_tower)]


class NotThere(unittest.TestCase):
    def test_no_tower_at_all(self):
        for number in (0, 1, HIGHEST):
            self.assertEqual(last(sees(number, 0)), [-2])

    def test_the_number_just_too_high(self):
        calls = [begins(3, 3)]
        for count in range(1, 6):
            calls = calls + [tower(1, 1, 9, (1, 0))]
            self.assertEqual(last(*calls, sees(count - 1, 0)), [0])
            self.assertEqual(last(*calls, sees(count, 0)), [-2])
            self.assertEqual(last(*calls, sees(HIGHEST, 0)), [-2])

    def test_no_such_cell(self):
        for wide, high in ((2, 2), (5, 2), (2, 5), (8, 3), (3, 8), (8, 8)):
            calls = [begins(wide, high), tower(0, 0, 200, (1, 0))]
            self.assertEqual(last(*calls, sees(0, wide * high - 1)), [0])
            for cell in list(range(wide * high, 70)) + [HIGHEST - 1, HIGHEST]:
                self.assertEqual(last(*calls, sees(0, cell)), [-2], (wide, high, cell))

    def test_no_such_cell_for_a_tower_without_marks(self):
        self.assertEqual(ask_all(tower(0, 0, 0), sees(0, 3), sees(0, 4))[1:], [[0], [-2]])

    def test_neither(self):
        self.assertEqual(last(sees(0, 4)), [-2])
        self.assertEqual(last(sees(HIGHEST, HIGHEST)), [-2])

    def test_a_refused_tower_is_not_there(self):
        self.assertEqual(ask_all(tower(2, 0, 9, (1, 0)), sees(0, 0)), [[-1], [-2]])

    def test_towers_are_gone_when_a_country_begins(self):
        calls = [tower(0, 0, 9, (1, 0)), sees(0, 0), begins(2, 2), sees(0, 0)]
        self.assertEqual(ask_all(*calls), [[0], [0], [0], [-2]])

    def test_a_refused_beginning_leaves_towers_and_cells(self):
        calls = [tower(0, 0, 9, (1, 0)), begins(9, 2), sees(0, 3), sees(0, 4)]
        self.assertEqual(ask_all(*calls)[1:], [[-1], [0], [-2]])


class Cells(unittest.TestCase):
    def test_are_numbered_row_by_row(self):
        for wide, high in ((5, 2), (2, 5), (8, 3), (3, 8)):
            for own in range(wide * high):
                expected = [1] * (wide * high)
                expected[own] = 0
                found = told_numbers(wide, high, tower(own % wide, own // wide, 0, (1, 0)))
                self.assertEqual(found, expected, (wide, high, own))


class NoneTold(unittest.TestCase):
    def test_as_the_number_of_marks(self):
        for count in range(1, 9):
            calls = [begins(3, 3), tower(0, 0, 1, *EIGHT[:count])]
            self.assertEqual(last(*calls, sees(0, 8)), [count])
            self.assertEqual(last(*calls, sees(0, 4)), [count])

    def test_a_tower_without_marks_tells_it_everywhere(self):
        for far in (0, 200):
            self.assertEqual(told(3, 2, tower(1, 1, far)), [[0]] * 6)

    def test_just_as_far_and_just_farther(self):
        for cell in range(1, 64):
            square = (cell % 8) ** 2 + (cell // 8) ** 2
            self.assertEqual(last(begins(8, 8), tower(0, 0, square, (1, 0)), sees(0, cell)), [0])
            self.assertEqual(last(begins(8, 8), tower(0, 0, square - 1, (1, 0)), sees(0, cell)), [1])

    def test_just_as_far_in_every_direction(self):
        self.assertEqual(told_numbers(5, 5, tower(2, 2, 4, (1, 0))), [
            1, 1, 0, 1, 1,
            1, 0, 0, 0, 1,
            0, 0, 0, 0, 0,
            1, 0, 0, 0, 1,
            1, 1, 0, 1, 1,
        ])


class OwnCell(unittest.TestCase):
    def test_is_sector_0_whatever_the_marks(self):
        for start in range(8):
            for far in (0, 1, 200):
                calls = [begins(3, 3), tower(1, 1, far, *EIGHT[start:])]
                self.assertEqual(last(*calls, sees(0, 4)), [0], (start, far))

    def test_where_far_is_0_it_alone_is_seen(self):
        self.assertEqual(told_numbers(3, 3, tower(1, 1, 0, (0, 1), (0, -1))), [2, 2, 2, 2, 0, 2, 2, 2, 2])


class Sectors(unittest.TestCase):
    def test_directions_that_are_just_marks(self):
        self.assertEqual(told_numbers(3, 3, tower(1, 1, 2, *EIGHT)), [
            5, 6, 7,
            4, 0, 0,
            3, 2, 1,
        ])

    def test_directions_just_marks_of_another_length(self):
        marks = ((6, 3), (-10, 5), (-3, -6))
        self.assertEqual(told_numbers(5, 5, tower(2, 2, 200, *marks)), [
            1, 2, 2, 2, 2,
            1, 1, 2, 2, 2,
            1, 1, 0, 2, 2,
            1, 0, 0, 0, 0,
            0, 0, 0, 0, 0,
        ])

    def test_directions_before_mark_0_are_of_the_last_sector(self):
        self.assertEqual(told_numbers(3, 3, tower(1, 1, 2, (0, 1), (-1, 0), (-1, -1))), [
            2, 2, 2,
            1, 0, 2,
            0, 0, 2,
        ])

    def test_one_mark_alone_has_the_whole_round(self):
        for mark in EIGHT:
            self.assertEqual(told(3, 3, tower(1, 1, 2, mark)), [[0]] * 9)
            self.assertEqual(told_numbers(3, 3, tower(1, 1, 1, mark)), [1, 0, 1, 0, 0, 0, 1, 0, 1])


class Reports(unittest.TestCase):
    def test_what_a_tower_tells_does_not_hang_on_them(self):
        towers = [tower(1, 1, 2, *EIGHT), tower(0, 0, 0, (1, 0))]
        expected = [[5], [6], [7], [4], [0], [0], [3], [2], [1]]
        self.assertEqual(told(3, 3, *towers), expected)
        self.assertEqual(told(3, 3, *towers, report(0, 3)), expected)
        self.assertEqual(told(3, 3, *towers, report(1, 0)), expected)
        self.assertEqual(told(3, 3, *towers, report(1, 1), report(0, 7)), expected)

    def test_are_left_as_they_were(self):
        calls = [begins(3, 3), tower(1, 1, 2, *EIGHT), sees(0, 6), may(), report(0, 0), sees(0, 6), sees(1, 6), may()]
        self.assertEqual(ask_all(*calls)[2:], [[3], [9] + list(range(9)), [2], [3], [-2], [2, 4, 5]])


if __name__ == "__main__":
    unittest.main()
