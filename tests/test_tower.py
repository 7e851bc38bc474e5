import unittest

from tests.helper import HIGHEST, ask_all, begins, last, may, report, tower, tower_told, turn

EIGHT = ((1, 0), (1, 1), (0, 1), (-1, 1), (-1, 0), (-1, -1), (0, -1), (1, -1))
EIGHT_TOLD = [number + 10 for mark in EIGHT for number in mark]
FIVE = [begins(3, 3)] + [tower(0, 0, 5, (1, 0))] * 5


def with_marks(*marks):
    return last(tower(0, 0, 5, *marks))


class Numbers(unittest.TestCase):
    def test_from_0_up_to_4_then_refused(self):
        calls = FIVE + [tower(1, 1, 5, (0, 1)), tower(2, 2, 0)]
        self.assertEqual(ask_all(*calls), [[0], [0], [1], [2], [3], [4], [-5], [-5]])

    def test_a_refused_one_takes_no_number(self):
        calls = [tower(0, 0, 5), tower(2, 0, 5), tower(0, 0, 5, (0, 0)), tower(0, 1, 5)]
        self.assertEqual(ask_all(*calls), [[0], [-1], [-3], [1]])

    def test_several_in_one_cell(self):
        self.assertEqual(ask_all(tower(1, 0, 5), tower(1, 0, 5)), [[0], [1]])

    def test_one_refused_for_5_leaves_the_others_as_they_were(self):
        calls = FIVE + [tower(2, 2, 0), report(4, 0), report(5, 0), may()]
        self.assertEqual(ask_all(*calls)[6:], [[-5], [8], [-2], [8, 0, 1, 2, 3, 4, 5, 6, 7]])

    def test_reports_stay_when_one_comes(self):
        calls = [begins(3, 2), tower(0, 0, 0, (1, 0)), report(0, 0), tower(2, 1, 9, (1, 0)), may(), report(0, 0)]
        self.assertEqual(ask_all(*calls)[3:], [[1], [1, 0], [-4]])


class OutOfBounds(unittest.TestCase):
    def test_x_just_outside(self):
        for wide in range(2, 9):
            calls = [begins(wide, 2), tower(wide - 1, 0, 5), tower(wide, 0, 5), tower(HIGHEST, 0, 5)]
            self.assertEqual(ask_all(*calls), [[0], [0], [-1], [-1]])

    def test_y_just_outside(self):
        for high in range(2, 9):
            calls = [begins(2, high), tower(0, high - 1, 5), tower(0, high, 5), tower(0, HIGHEST, 5)]
            self.assertEqual(ask_all(*calls), [[0], [0], [-1], [-1]])

    def test_far(self):
        calls = [tower(0, 0, far) for far in (0, 200, 201, HIGHEST)]
        self.assertEqual(ask_all(*calls), [[0], [1], [-1], [-1]])

    def test_how_many_numbers(self):
        for count in range(21):
            numbers = (EIGHT_TOLD + [20, 9, 20, 9])[:count]
            right = count % 2 == 0 and count <= 16
            self.assertEqual(last(tower_told(0, 0, 5, numbers)), [0] if right else [-1], count)

    def test_a_number_above_20_wherever_it_stands(self):
        self.assertEqual(last(tower_told(0, 0, 5, EIGHT_TOLD)), [0])
        for at in range(16):
            for wrong in (21, 22, HIGHEST):
                numbers = EIGHT_TOLD[:at] + [wrong] + EIGHT_TOLD[at + 1:]
                self.assertEqual(last(tower_told(0, 0, 5, numbers)), [-1], (at, wrong))

    def test_20_and_0_are_the_farthest_numbers(self):
        self.assertEqual(with_marks((10, 0), (10, 10), (-10, 10), (-10, -10), (10, -10)), [0])
        for numbers in ([20, 10], [10, 20], [0, 10], [10, 0], [20, 20], [0, 0]):
            self.assertEqual(last(tower_told(0, 0, 5, numbers)), [0], numbers)

    def test_each_number_of_a_mark_of_21_alone(self):
        for numbers in ([21, 10], [10, 21], [21, 21]):
            self.assertEqual(last(tower_told(0, 0, 5, numbers)), [-1], numbers)


class GoingRound(unittest.TestCase):
    def test_no_marks(self):
        self.assertEqual(with_marks(), [0])

    def test_a_mark_of_0_and_0(self):
        self.assertEqual(with_marks((0, 0)), [-3])
        self.assertEqual(with_marks((0, 0), (0, 1)), [-3])
        self.assertEqual(with_marks((1, 0), (0, 0), (0, 1)), [-3])
        self.assertEqual(with_marks((1, 0), (0, 1), (0, 0)), [-3])
        self.assertEqual(with_marks((1, 0), (1, -1), (0, 0)), [-3])
        self.assertEqual(with_marks((0, 0), (0, 0)), [-3])
        for at in range(8):
            self.assertEqual(with_marks(*EIGHT[:at], (0, 0), *EIGHT[at + 1:]), [-3], at)

    def test_a_mark_with_one_number_0(self):
        for mark in ((1, 0), (0, 1), (-1, 0), (0, -1)):
            self.assertEqual(with_marks(mark), [0], mark)

    def test_the_same_direction_twice(self):
        for x, y in EIGHT:
            self.assertEqual(with_marks((x, y), (x, y)), [-3])
            self.assertEqual(with_marks((x, y), (10 * x, 10 * y)), [-3])
            self.assertEqual(with_marks((10 * x, 10 * y), (x, y)), [-3])
        self.assertEqual(with_marks((3, -2), (9, -6)), [-3])
        self.assertEqual(with_marks((1, 0), (-2, 4), (-5, 10), (0, -1)), [-3])

    def test_the_same_direction_with_others_between(self):
        self.assertEqual(with_marks((1, 0), (0, 1), (-1, 0), (2, 0)), [-3])

    def test_the_whole_round(self):
        self.assertEqual(with_marks(*EIGHT), [0])
        self.assertEqual(with_marks((10, 1), (1, 10), (-1, 10), (-10, 1), (-10, -1), (-1, -10), (1, -10), (10, -1)), [0])

    def test_over_the_end_of_the_round(self):
        for start in range(1, 8):
            self.assertEqual(with_marks(*EIGHT[start:], *EIGHT[:start]), [-3], start)
        self.assertEqual(with_marks((0, 1), (-1, 0), (0, -1), (1, 0)), [-3])
        self.assertEqual(with_marks((10, -1), (10, 1)), [-3])

    def test_the_other_way_round(self):
        self.assertEqual(with_marks(*EIGHT[::-1]), [-3])

    def test_two_neighbours_exchanged(self):
        for at in range(7):
            marks = EIGHT[:at] + (EIGHT[at + 1], EIGHT[at]) + EIGHT[at + 2:]
            self.assertEqual(with_marks(*marks), [-3], at)

    def test_opposite_directions(self):
        self.assertEqual(with_marks((1, 0), (-1, 0)), [0])
        self.assertEqual(with_marks((-1, 0), (1, 0)), [-3])
        self.assertEqual(with_marks((3, 7), (-3, -7)), [0])
        self.assertEqual(with_marks((-3, -7), (3, 7)), [-3])

    def test_neighbours_that_hardly_differ(self):
        self.assertEqual(with_marks((10, 9), (9, 10)), [0])
        self.assertEqual(with_marks((9, 8), (10, 9)), [0])
        self.assertEqual(with_marks((10, 9), (9, 8)), [-3])
        self.assertEqual(with_marks((-9, -8), (-10, -9)), [0])
        self.assertEqual(with_marks((-10, -9), (-9, -8)), [-3])

    def test_every_two_directions(self):
        steps = (-10, -9, -7, -3, -2, -1, 0, 1, 2, 3, 4, 8, 9, 10)
        directions = [(x, y) for x in steps for y in steps if (x, y) != (0, 0)]
        for first in directions:
            for second in directions:
                expected = [0] if turn(first) < turn(second) else [-3]
                self.assertEqual(with_marks(first, second), expected, (first, second))


class ToldFirst(unittest.TestCase):
    def test_bounds_ahead_of_marks(self):
        wrong = ((0, 0),)
        for call in (tower(3, 0, 5, *wrong), tower(0, 3, 5, *wrong), tower(0, 0, 201, *wrong)):
            self.assertEqual(last(begins(3, 3), call), [-1])
        for numbers in ([10, 10, 10], [10, 10, 21, 10], [10] * 18, [10] * 17, [10] * 20, [10, 20, 20, 10, 10, 21]):
            self.assertEqual(last(begins(3, 3), tower_told(0, 0, 5, numbers)), [-1], numbers)

    def test_bounds_ahead_of_too_many(self):
        for call in (tower(3, 0, 5), tower(0, 3, 5), tower(0, 0, 201)):
            self.assertEqual(last(*FIVE, call), [-1])
        for numbers in ([20], [21, 10], EIGHT_TOLD + [20, 9]):
            self.assertEqual(last(*FIVE, tower_told(0, 0, 5, numbers)), [-1], numbers)

    def test_marks_ahead_of_too_many(self):
        for marks in (((0, 0),), ((0, 1), (1, 0)), ((1, 1), (2, 2))):
            self.assertEqual(last(*FIVE, tower(0, 0, 5, *marks)), [-3], marks)

    def test_all_three(self):
        self.assertEqual(last(*FIVE, tower(3, 0, 5, (0, 0))), [-1])


if __name__ == "__main__":
    unittest.main()
