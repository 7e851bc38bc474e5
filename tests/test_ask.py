import unittest

from tests.helper import ask, ask_all, begins, last, may, report, tower

# Each in a country of 3 by 3. HALVES leaves 5 (the others are 4), NEAR leaves 6 (the others are 2 and 1),
# OWN leaves 8, BLIND leaves all 9.
NINE = begins(3, 3)
HALVES = tower(1, 1, 9, (1, 0), (-1, 0))
NEAR = tower(0, 0, 1, (1, 0), (0, 1))
OWN = tower(0, 0, 0, (1, 0))
BLIND = tower(1, 1, 200)


class Refused(unittest.TestCase):
    def test_without_towers(self):
        self.assertEqual(last(ask()), [-6])
        self.assertEqual(last(begins(8, 8), ask()), [-6])

    def test_when_all_have_reported(self):
        self.assertEqual(last(NINE, HALVES, report(0, 0), ask()), [-6])
        self.assertEqual(last(NINE, HALVES, OWN, report(1, 1), report(0, 0), ask()), [-6])
        five = [NINE] + [HALVES] * 5 + [report(number, 1) for number in (4, 2, 0, 1, 3)]
        self.assertEqual(last(*five, ask()), [-6])

    def test_not_when_one_has_not_reported(self):
        for silent in range(5):
            reports = [report(number, 0) for number in range(5) if number != silent]
            self.assertEqual(last(NINE, *[HALVES] * 5, *reports, ask()), [silent, 5])

    def test_not_when_a_report_was_refused(self):
        self.assertEqual(last(NINE, HALVES, report(0, 2), ask()), [0, 5])

    def test_not_any_more_when_another_tower_comes(self):
        calls = [NINE, HALVES, report(0, 0), ask(), OWN, ask()]
        self.assertEqual(ask_all(*calls)[3:], [[-6], [1], [1, 5]])

    def test_again_when_a_country_begins(self):
        self.assertEqual(ask_all(HALVES, tower(0, 0, 0), ask(), NINE, ask())[2:], [[0, 3], [0], [-6]])


class Fewest(unittest.TestCase):
    def test_one_alone(self):
        self.assertEqual(last(NINE, HALVES, ask()), [0, 5])
        self.assertEqual(last(NINE, NEAR, ask()), [0, 6])
        self.assertEqual(last(NINE, OWN, ask()), [0, 8])
        self.assertEqual(last(NINE, BLIND, ask()), [0, 9])

    def test_wherever_it_stands(self):
        for at in range(3):
            towers = [BLIND, OWN]
            towers.insert(at, HALVES)
            self.assertEqual(last(NINE, *towers, ask()), [at, 5])

    def test_not_the_one_that_may_tell_the_most_kinds(self):
        self.assertEqual(last(NINE, NEAR, HALVES, ask()), [1, 5])
        self.assertEqual(last(NINE, HALVES, NEAR, ask()), [0, 5])

    def test_none_told_counts_like_what_is_seen(self):
        self.assertEqual(last(NINE, tower(1, 1, 1, (1, 0)), ask()), [0, 5])
        self.assertEqual(last(NINE, tower(0, 0, 2, (1, 0)), ask()), [0, 5])

    def test_one_with_eight_marks(self):
        eight = tower(1, 1, 9, (1, 0), (1, 1), (0, 1), (-1, 1), (-1, 0), (-1, -1), (0, -1), (1, -1))
        self.assertEqual(last(NINE, HALVES, eight, ask()), [1, 2])


class LowestNumber(unittest.TestCase):
    def test_of_several_that_leave_as_few(self):
        self.assertEqual(last(NINE, HALVES, HALVES, ask()), [0, 5])
        self.assertEqual(last(NINE, tower(1, 1, 1, (1, 0)), HALVES, ask()), [0, 5])
        self.assertEqual(last(NINE, OWN, HALVES, BLIND, HALVES, HALVES, ask()), [1, 5])

    def test_where_a_lower_one_has_reported(self):
        self.assertEqual(last(NINE, BLIND, HALVES, HALVES, report(0, 0), ask()), [1, 5])
        self.assertEqual(last(NINE, HALVES, OWN, NEAR, OWN, report(0, 1), ask()), [2, 2])
        self.assertEqual(last(NINE, OWN, OWN, OWN, report(0, 1), ask()), [1, 8])
        self.assertEqual(last(NINE, OWN, OWN, OWN, report(1, 1), ask()), [0, 8])

    def test_one_that_has_reported_is_not_asked_though_it_leaves_as_few(self):
        self.assertEqual(last(NINE, HALVES, BLIND, report(0, 0), ask()), [1, 5])

    def test_of_towers_without_marks(self):
        self.assertEqual(last(NINE, BLIND, BLIND, BLIND, ask()), [0, 9])
        self.assertEqual(last(NINE, BLIND, BLIND, BLIND, report(0, 0), ask()), [1, 9])
        self.assertEqual(last(NINE, BLIND, OWN, ask()), [1, 8])


class WithReports(unittest.TestCase):
    def test_cells_that_are_out_count_no_more(self):
        # Of the cells 0 to 3 NEAR tells sector 0 twice, sector 1 and none; OWN tells none of three.
        calls = [NINE, HALVES, OWN, NEAR, ask(), report(0, 1), ask()]
        self.assertEqual(ask_all(*calls)[4:], [[0, 5], [4], [2, 2]])

    def test_another_is_best_than_without_them(self):
        # Without reports tower 0 leaves 5 and NEAR 6; in the cells 0 to 3 tower 0 leaves 3 and NEAR 2.
        ones = [NINE, tower(2, 1, 1, (1, 0), (0, 1), (-1, 0)), NEAR, HALVES]
        self.assertEqual(last(*ones, ask()), [0, 5])
        self.assertEqual(last(*ones, report(2, 1), may()), [4, 0, 1, 2, 3])
        self.assertEqual(last(*ones, report(2, 1), ask()), [1, 2])

    def test_one_cell_left(self):
        calls = [NINE, OWN, HALVES, BLIND, report(0, 0), may(), ask(), report(1, 1), ask()]
        self.assertEqual(ask_all(*calls)[5:], [[1, 0], [1, 1], [1], [2, 1]])

    def test_each_cell_told_otherwise(self):
        four = tower(0, 0, 1, (1, 0), (0, 1))
        self.assertEqual(last(four, tower(1, 0, 0, (1, 0)), report(1, 1), ask()), [0, 1])


class Unchanged(unittest.TestCase):
    def test_asked_twice_it_answers_the_same(self):
        calls = [NINE, OWN, HALVES, ask(), ask(), may(), report(1, 0), ask(), ask(), may()]
        all_nine = [9] + list(range(9))
        five = [5, 4, 5, 6, 7, 8]
        self.assertEqual(ask_all(*calls)[3:], [[1, 5], [1, 5], all_nine, [5], [0, 5], [0, 5], five])


if __name__ == "__main__":
    unittest.main()
