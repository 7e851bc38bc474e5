import random
import unittest

from tests.helper import ask_all, begins, last, may, report, tells, tower, turn

EIGHT = ((1, 0), (1, 1), (0, 1), (-1, 1), (-1, 0), (-1, -1), (0, -1), (1, -1))


def cells_told(wide, high, place, far, marks, what):
    """The cells that may answers when this tower alone told this; none if its report is refused."""
    calls = [begins(wide, high), tower(*place, far, *marks), report(0, what), may()]
    counted, listed = ask_all(*calls)[2:]
    if counted == [-6]:
        return []
    if counted != [len(listed) - 1] or listed[0] != len(listed) - 1:
        raise ValueError("counts don't agree")
    return listed[1:]


class WithoutReports(unittest.TestCase):
    def test_all_cells(self):
        self.assertEqual(last(may()), [4, 0, 1, 2, 3])
        self.assertEqual(last(begins(8, 8), may()), [64] + list(range(64)))
        self.assertEqual(last(begins(2, 3), tower(0, 0, 0, (1, 0)), may()), [6, 0, 1, 2, 3, 4, 5])


class Places(unittest.TestCase):
    def test_cells_are_numbered_row_by_row(self):
        for wide, high in ((2, 8), (8, 2), (5, 3)):
            for cell in range(wide * high):
                place = (cell % wide, cell // wide)
                self.assertEqual(cells_told(wide, high, place, 0, ((1, 0),), 0), [cell])


class Far(unittest.TestCase):
    def test_the_square_of_the_distance_counts(self):
        corner = ((1, 0),)
        self.assertEqual(cells_told(4, 4, (0, 0), 0, corner, 0), [0])
        self.assertEqual(cells_told(4, 4, (0, 0), 1, corner, 0), [0, 1, 4])
        self.assertEqual(cells_told(4, 4, (0, 0), 2, corner, 0), [0, 1, 4, 5])
        self.assertEqual(cells_told(4, 4, (0, 0), 3, corner, 0), [0, 1, 4, 5])
        self.assertEqual(cells_told(4, 4, (0, 0), 4, corner, 0), [0, 1, 2, 4, 5, 8])

    def test_just_as_far_and_just_farther(self):
        for cell in range(64):
            square = (cell % 8) ** 2 + (cell // 8) ** 2
            self.assertIn(cell, cells_told(8, 8, (0, 0), square, ((1, 0),), 0))
            if square > 0:
                self.assertIn(cell, cells_told(8, 8, (0, 0), square - 1, ((1, 0),), 1))

    def test_200_is_all_over(self):
        self.assertEqual(cells_told(8, 8, (7, 7), 200, ((1, 0),), 0), list(range(64)))


class OwnCell(unittest.TestCase):
    def test_is_sector_0_whatever_the_marks(self):
        for marks in (((1, 0),), ((0, 1), (0, -1)), EIGHT[3:], EIGHT):
            for far in (0, 200):
                self.assertIn(4, cells_told(3, 3, (1, 1), far, marks, 0))

    def test_is_none_without_marks(self):
        self.assertEqual(cells_told(3, 3, (1, 1), 0, (), 0), list(range(9)))


class Sectors(unittest.TestCase):
    def test_a_direction_that_is_a_marks_own(self):
        around = (5, 8, 7, 6, 3, 0, 1, 2)
        for i in range(8):
            own = [around[i]] if i else [4, 5]
            self.assertEqual(cells_told(3, 3, (1, 1), 9, EIGHT, i), own)

    def test_a_direction_that_is_a_marks_own_with_another_length(self):
        marks = ((6, 3), (-10, 5), (-3, -6))
        told = [cells_told(5, 5, (2, 2), 200, marks, what) for what in range(3)]
        self.assertEqual(told[0], [12, 16, 17, 18, 19, 20, 21, 22, 23, 24])
        self.assertEqual(told[1], [0, 5, 6, 10, 11, 15])
        self.assertEqual(told[2], [1, 2, 3, 4, 7, 8, 9, 13, 14])

    def test_directions_before_mark_0_are_of_the_last_sector(self):
        marks = ((0, 1), (-1, 0))
        self.assertEqual(cells_told(3, 3, (1, 1), 9, marks, 0), [4, 6, 7])
        self.assertEqual(cells_told(3, 3, (1, 1), 9, marks, 1), [0, 1, 2, 3, 5, 8])

    def test_marks_that_begin_late_in_the_round(self):
        marks = ((0, -1), (1, -1))
        self.assertEqual(cells_told(3, 3, (1, 1), 9, marks, 0), [1, 4])
        self.assertEqual(cells_told(3, 3, (1, 1), 9, marks, 1), [0, 2, 3, 5, 6, 7, 8])

    def test_one_mark_has_the_whole_round(self):
        for mark in EIGHT:
            self.assertEqual(cells_told(3, 3, (1, 1), 9, (mark,), 0), list(range(9)))

    def test_against_the_words_reckoned_otherwise(self):
        dice = random.Random(2026)
        for _ in range(400):
            wide, high = dice.randint(2, 8), dice.randint(2, 8)
            place = (dice.randrange(wide), dice.randrange(high))
            far = dice.choice((0, 1, 2, 5, 9, 25, 98, 200, dice.randint(0, 100)))
            reach = dice.choice((1, 2, 3, 10))
            marks = {}
            for _ in range(dice.randint(0, 8)):
                mark = (dice.randint(-reach, reach), dice.randint(-reach, reach))
                if mark != (0, 0):
                    marks[turn(mark)] = mark
            marks = [marks[angle] for angle in sorted(marks)]
            cells = [(cell % wide, cell // wide) for cell in range(wide * high)]
            told = [tells(place, far, marks, cell) for cell in cells]
            for what in range(len(marks) + 1):
                expected = [cell for cell in range(wide * high) if told[cell] == what]
                found = cells_told(wide, high, place, far, marks, what)
                self.assertEqual(found, expected, (wide, high, place, far, marks, what))


class SeveralReports(unittest.TestCase):
    def test_a_cell_must_fit_them_all(self):
        halves = ((1, 0), (-1, 0))
        calls = [begins(4, 4), tower(1, 1, 200, *halves), tower(2, 2, 200, *halves), tower(0, 2, 5, (1, 0))]
        calls += [report(0, 0), may(), report(1, 1), may(), report(2, 1), may()]
        self.assertEqual(ask_all(*calls)[4:], [
            [11], [11, 5, 6, 7, 8, 9, 10, 11, 12, 13, 14, 15],
            [5], [5, 5, 6, 7, 8, 9],
            [1], [1, 7],
        ])

    def test_their_order_is_all_the_same(self):
        towers = [begins(5, 5), tower(0, 0, 20, (1, 1), (0, 1)), tower(4, 0, 200, (0, 1), (-1, 1))]
        one = last(*towers, report(0, 0), report(1, 1), may())
        other = last(*towers, report(1, 1), report(0, 0), may())
        self.assertEqual(one, other)
        self.assertGreater(one[0], 1)

    def test_five_of_them(self):
        corners = [tower(x, y, 8, (1, 0)) for x, y in ((0, 0), (4, 0), (0, 4), (4, 4))]
        calls = [begins(5, 5), *corners, tower(2, 2, 0, (1, 0))] + [report(i, 0) for i in range(5)] + [may()]
        self.assertEqual(ask_all(*calls)[-2:], [[1], [1, 12]])

    def test_asked_twice_it_answers_the_same(self):
        calls = [begins(3, 3), tower(0, 0, 1, (1, 0)), report(0, 0), may(), may()]
        self.assertEqual(ask_all(*calls)[-2:], [[3, 0, 1, 3]] * 2)


if __name__ == "__main__":
    unittest.main()
