import unittest

from tests.helper import HIGHEST, ask_all, begins, last, may, report, tower

RIGHT_SIDES = (2, 3, 7, 8)
WRONG_SIDES = (0, 1, 9, 10, HIGHEST)


class Begins(unittest.TestCase):
    def test_answers_0_and_has_so_many_cells(self):
        for wide in RIGHT_SIDES:
            for high in RIGHT_SIDES:
                cells = list(range(wide * high))
                self.assertEqual(ask_all(begins(wide, high), may()), [[0], [len(cells)] + cells])

    def test_width_and_height_are_not_mixed_up(self):
        calls = [begins(3, 5), tower(2, 4, 0), tower(3, 0, 0), tower(0, 5, 0)]
        self.assertEqual(ask_all(*calls), [[0], [0], [-1], [-1]])

    def test_wrong_width_alone(self):
        for wide in WRONG_SIDES:
            for high in RIGHT_SIDES:
                self.assertEqual(last(begins(wide, high)), [-1], (wide, high))

    def test_wrong_height_alone(self):
        for wide in RIGHT_SIDES:
            for high in WRONG_SIDES:
                self.assertEqual(last(begins(wide, high)), [-1], (wide, high))

    def test_both_wrong(self):
        for wide in WRONG_SIDES:
            for high in WRONG_SIDES:
                self.assertEqual(last(begins(wide, high)), [-1], (wide, high))

    def test_a_line_begins_2_wide_and_2_high_without_towers_and_reports(self):
        calls = [may(), report(0, 0), tower(2, 0, 0), tower(0, 2, 0), tower(1, 1, 0)]
        self.assertEqual(ask_all(*calls), [[4, 0, 1, 2, 3], [-2], [-1], [-1], [0]])

    def test_towers_are_gone_after_it(self):
        calls = [begins(3, 3), tower(0, 0, 9, (1, 0)), tower(1, 1, 9), begins(3, 3)]
        self.assertEqual(last(*calls, report(0, 0)), [-2])
        self.assertEqual(last(*calls, tower(1, 1, 9)), [0])

    def test_five_towers_fit_again_after_it(self):
        calls = [begins(2, 2)] + [tower(0, 0, 9)] * 5
        self.assertEqual(ask_all(*calls, *calls), ([[0], [0], [1], [2], [3], [4]]) * 2)

    def test_reports_are_gone_after_it(self):
        calls = [begins(3, 2), tower(0, 0, 0, (1, 0)), report(0, 0), may(), begins(3, 2), may()]
        self.assertEqual(ask_all(*calls)[2:], [[1], [1, 0], [0], [6, 0, 1, 2, 3, 4, 5]])
        again = calls[:5] + [tower(0, 0, 0, (1, 0)), report(0, 1), may()]
        self.assertEqual(ask_all(*again)[5:], [[0], [5], [5, 1, 2, 3, 4, 5]])

    def test_refused_it_leaves_all_as_it_was(self):
        before = [begins(4, 3), tower(0, 0, 1, (1, 0)), report(0, 0)]
        for wide, high in ((1, 3), (4, 9), (9, 2), (2, 0)):
            calls = before + [begins(wide, high), may(), report(0, 0), tower(3, 2, 0), tower(4, 0, 0), tower(0, 3, 0)]
            self.assertEqual(ask_all(*calls)[3:], [[-1], [3, 0, 1, 4], [-4], [1], [-1], [-1]])


if __name__ == "__main__":
    unittest.main()
