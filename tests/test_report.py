import unittest

from tests.helper import HIGHEST, ask_all, begins, last, may, report, tower

# From the middle of 3 by 3 cells: sector 0 is the tower's own cell 4, cell 5
# beside it and the row of y 2; sector 1 is cell 3 and the row of y 0.
MIDDLE = [begins(3, 3), tower(1, 1, 9, (1, 0), (-1, 0))]
ALL_NINE = [9] + list(range(9))


class Answered(unittest.TestCase):
    def test_the_count_of_cells(self):
        self.assertEqual(last(*MIDDLE, report(0, 0)), [5])
        self.assertEqual(last(*MIDDLE, report(0, 1)), [4])
        self.assertEqual(last(*MIDDLE, report(0, 0), may()), [5, 4, 5, 6, 7, 8])
        self.assertEqual(last(*MIDDLE, report(0, 1), may()), [4, 0, 1, 2, 3])

    def test_the_count_with_what_was_reported_before(self):
        calls = MIDDLE + [tower(0, 0, 4, (1, 0)), report(0, 0), report(1, 0), may()]
        self.assertEqual(ask_all(*calls)[3:], [[5], [2], [2, 4, 6]])

    def test_none_is_told_as_the_number_of_marks(self):
        calls = [begins(3, 3), tower(0, 0, 1, (1, 0), (0, 1), (-1, 0)), report(0, 3), may()]
        self.assertEqual(ask_all(*calls)[2:], [[6], [6, 2, 4, 5, 6, 7, 8]])

    def test_a_tower_without_marks_tells_none(self):
        calls = [begins(3, 3), tower(1, 1, 200), report(0, 1), report(0, 0), may()]
        self.assertEqual(ask_all(*calls)[2:], [[-1], [9], ALL_NINE])

    def test_a_tower_with_one_mark(self):
        calls = [begins(3, 3), tower(1, 1, 1, (-3, -7)), report(0, 2), report(0, 0), may()]
        self.assertEqual(ask_all(*calls)[2:], [[-1], [5], [5, 1, 3, 4, 5, 7]])


class Refused(unittest.TestCase):
    def test_no_such_tower(self):
        self.assertEqual(last(report(0, 0)), [-2])
        self.assertEqual(last(*MIDDLE, report(1, 0)), [-2])
        self.assertEqual(last(*MIDDLE, report(HIGHEST, 0)), [-2])
        five = [begins(3, 3)] + [tower(1, 1, 9, (1, 0))] * 5
        self.assertEqual(last(*five, report(4, 0)), [9])
        self.assertEqual(last(*five, report(5, 0)), [-2])

    def test_fewer_marks(self):
        self.assertEqual(last(*MIDDLE, report(0, 3)), [-1])
        self.assertEqual(last(*MIDDLE, report(0, HIGHEST)), [-1])

    def test_it_has_reported(self):
        for what in (0, 1):
            self.assertEqual(last(*MIDDLE, report(0, 0), report(0, what)), [-4])

    def test_another_one_may_report_still(self):
        self.assertEqual(last(*MIDDLE, tower(1, 1, 9), report(0, 0), report(1, 0)), [5])

    def test_no_cell_left_by_a_first_report(self):
        self.assertEqual(last(*MIDDLE, report(0, 2)), [-6])
        self.assertEqual(last(begins(2, 2), tower(0, 0, 9, (1, 0), (-1, 0)), report(0, 1)), [-6])

    def test_no_cell_left_by_two_reports_together(self):
        calls = MIDDLE + [tower(0, 0, 0, (1, 0)), report(0, 0), report(1, 0)]
        self.assertEqual(last(*calls), [-6])

    def test_one_cell_left_is_enough(self):
        calls = MIDDLE + [tower(2, 2, 0, (1, 0)), report(0, 0), report(1, 0), may()]
        self.assertEqual(ask_all(*calls)[4:], [[1], [1, 8]])


class ToldFirst(unittest.TestCase):
    def test_no_such_tower_ahead_of_fewer_marks(self):
        self.assertEqual(last(*MIDDLE, report(1, HIGHEST)), [-2])
        self.assertEqual(last(report(0, HIGHEST)), [-2])

    def test_fewer_marks_ahead_of_reported_and_of_no_cell(self):
        self.assertEqual(last(*MIDDLE, report(0, 0), report(0, 3)), [-1])

    def test_reported_ahead_of_no_cell(self):
        self.assertEqual(last(*MIDDLE, report(0, 0), report(0, 2)), [-4])
        self.assertEqual(last(*MIDDLE, report(0, 0), report(0, 1)), [-4])


class Unchanged(unittest.TestCase):
    def test_by_no_such_tower(self):
        calls = MIDDLE + [report(1, 0), may(), tower(0, 0, 0, (1, 0)), report(1, 0), may()]
        self.assertEqual(ask_all(*calls)[2:], [[-2], ALL_NINE, [1], [1], [1, 0]])

    def test_by_fewer_marks(self):
        calls = MIDDLE + [report(0, 3), may(), report(0, 0)]
        self.assertEqual(ask_all(*calls)[2:], [[-1], ALL_NINE, [5]])

    def test_by_reported(self):
        calls = MIDDLE + [report(0, 0), report(0, 1), may()]
        self.assertEqual(ask_all(*calls)[2:], [[5], [-4], [5, 4, 5, 6, 7, 8]])

    def test_by_no_cell_left(self):
        calls = MIDDLE + [report(0, 2), may(), report(0, 1), may()]
        self.assertEqual(ask_all(*calls)[2:], [[-6], ALL_NINE, [4], [4, 0, 1, 2, 3]])

    def test_by_no_cell_left_after_another_report(self):
        calls = MIDDLE + [tower(0, 0, 0, (1, 0)), report(0, 0), report(1, 0), may(), report(1, 1), may()]
        self.assertEqual(ask_all(*calls)[3:], [[5], [-6], [5, 4, 5, 6, 7, 8], [5], [5, 4, 5, 6, 7, 8]])


if __name__ == "__main__":
    unittest.main()
