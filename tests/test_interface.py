import unittest

from firewatch.country import answers

LINE = [
    3,
    0, 3, 2,
    0, 9, 2,
    1, 0, 0, 1, 2, 20, 10,
    1, 0, 0, 1, 3, 20, 10, 10,
    1, 2, 1, 200, 0,
    1, 0, 0, 1, 20] + [10] * 20 + [
    2, 7, 0,
    2, 0, 0,
    3,
    2, 0, 0,
    2, 1, 0,
    1, 0, 0, 1, 4, 10, 20, 20, 10,
    3,
    6,
    1, 0, 0, 0, 2, 20, 10,
    4, 0, 5,
    4, 0, 6,
    5,
    6,
    2, 2, 0,
    5,
    6,
]
ANSWERED = [
    5, 4, 0, 1, 2, 3,
    1, 0,
    1, -1,
    1, 0,
    1, -1,
    1, 1,
    1, -1,
    1, -2,
    1, 3,
    4, 3, 0, 1, 3,
    1, -4,
    1, 3,
    1, -3,
    4, 3, 0, 1, 3,
    1, 0,
    1, 2,
    1, 1,
    1, -2,
    2, 2, 2,
    1, 1,
    1, 1,
    1, -6,
    1, 0,
]


class Interface(unittest.TestCase):
    def test_calls_and_answers_one_behind_another(self):
        self.assertEqual(answers(LINE), ANSWERED)

    def test_each_call_alone(self):
        self.assertEqual(answers([0, 2, 2]), [1, 0])
        self.assertEqual(answers([0, 1, 2]), [1, -1])
        self.assertEqual(answers([1, 0, 0, 0, 0]), [1, 0])
        self.assertEqual(answers([2, 0, 0]), [1, -2])
        self.assertEqual(answers([3]), [5, 4, 0, 1, 2, 3])
        self.assertEqual(answers([4, 0, 0]), [1, -2])
        self.assertEqual(answers([5]), [1, -6])
        self.assertEqual(answers([6]), [1, 0])

    def test_the_list_handed_in_stays_the_same(self):
        line = list(LINE)
        answers(line)
        self.assertEqual(line, LINE)

    def test_the_list_handed_in_is_not_given_back(self):
        line = list(LINE)
        answered = answers(line)
        answered.append(7)
        self.assertEqual(line, LINE)
        self.assertEqual(answers(line), ANSWERED)

    def test_nothing_is_kept_from_one_time_to_the_next(self):
        self.assertEqual(answers(LINE), answers(LINE))
        answers([0, 8, 8, 1, 0, 0, 9, 2, 20, 10, 2, 0, 0])
        self.assertEqual(answers([3]), [5, 4, 0, 1, 2, 3])
        self.assertEqual(answers([2, 0, 0]), [1, -2])

    def test_whole_numbers_in_a_list(self):
        answered = answers(LINE)
        self.assertIs(type(answered), list)
        self.assertEqual({type(number) for number in answered}, {int})

    def test_forty_calls(self):
        self.assertEqual(answers([0, 8, 8] + [3] * 39), [1, 0] + ([65, 64] + list(range(64))) * 39)
        long_tower = [1, 0, 0, 201, 20] + [4294967295] * 20
        self.assertEqual(answers(long_tower * 40), [1, -1] * 40)


if __name__ == "__main__":
    unittest.main()
