import unittest

from tests.helper import Reckoned, ask, ask_all, begins, depth, last, may, report, sees, tower

NINE = begins(3, 3)
HALVES = tower(1, 1, 9, (1, 0), (-1, 0))
BLIND = tower(1, 1, 200)
EIGHT = ((1, 0), (1, 1), (0, 1), (-1, 1), (-1, 0), (-1, -1), (0, -1), (1, -1))


def own(x, y):
    """A tower that sees its own cell alone."""
    return tower(x, y, 0, (1, 0))


def within(x, y, far):
    """A tower that tells just whether smoke is so near: sector 0 if it is, else none, 1."""
    return tower(x, y, far, (1, 0))


def depth_by_asking_first(calls, number, marks):
    """How many are asked at the worst if this tower is asked first, and then by a least way."""
    depths = []
    for what in range(marks + 1):
        counted, left = ask_all(*calls, report(number, what), depth())[-2:]
        if counted != [-6]:
            depths += left
    return 1 + max(depths)


class Nothing(unittest.TestCase):
    def test_without_towers(self):
        self.assertEqual(last(depth()), [0])
        self.assertEqual(last(begins(8, 8), depth()), [0])

    def test_when_all_have_reported(self):
        self.assertEqual(last(NINE, HALVES, report(0, 0), depth()), [0])
        self.assertEqual(last(NINE, HALVES, own(0, 0), report(0, 0), report(1, 1), depth()), [0])

    def test_with_one_cell_left(self):
        calls = [NINE, own(1, 1), HALVES, tower(1, 1, 9, *EIGHT), report(0, 0), may(), depth()]
        self.assertEqual(ask_all(*calls)[-2:], [[1, 4], [0]])

    def test_with_towers_without_marks(self):
        self.assertEqual(last(NINE, BLIND, depth()), [0])
        self.assertEqual(last(NINE, BLIND, BLIND, BLIND, BLIND, BLIND, depth()), [0])

    def test_with_towers_that_tell_the_same_of_all_cells(self):
        self.assertEqual(last(NINE, within(1, 1, 2), within(0, 0, 8), within(2, 1, 200), depth()), [0])

    def test_with_towers_that_tell_the_same_of_the_cells_left(self):
        # HALVES told sector 1, so the cells 0 to 3 are left.
        towers = [HALVES, own(2, 2), within(0, 0, 4), tower(1, 2, 9, (1, 0), (-1, 0))]
        self.assertEqual(ask_all(NINE, *towers, report(0, 1), may(), depth())[-2:], [[4, 0, 1, 2, 3], [0]])

    def test_one_that_has_reported_counts_no_more(self):
        calls = [NINE, HALVES, own(0, 0), depth(), report(1, 1), depth(), report(0, 0), depth()]
        self.assertEqual(ask_all(*calls)[3:], [[2], [8], [1], [5], [0]])


class One(unittest.TestCase):
    def test_a_tower_alone(self):
        for one in (HALVES, own(0, 0), within(2, 2, 4), tower(0, 2, 9, *EIGHT)):
            self.assertEqual(last(NINE, one, depth()), [1])

    def test_several_that_tell_the_same_apart(self):
        self.assertEqual(last(NINE, HALVES, HALVES, depth()), [1])
        self.assertEqual(last(NINE, *[own(1, 1)] * 5, depth()), [1])

    def test_one_that_tells_nothing_beside_one_that_does(self):
        self.assertEqual(last(NINE, BLIND, HALVES, BLIND, depth()), [1])
        self.assertEqual(last(NINE, within(1, 1, 2), own(0, 0), depth()), [1])

    def test_one_that_tells_apart_all_that_the_others_do(self):
        eight = tower(1, 1, 9, *EIGHT)
        others = [HALVES, tower(1, 1, 9, (1, 0), (0, 1), (-1, 0), (0, -1)), own(0, 0), own(2, 0)]
        self.assertEqual(last(NINE, eight, *others, depth()), [1])
        self.assertEqual(last(NINE, *others, eight, depth()), [1])

    def test_those_left_over_are_no_matter_if_no_tower_tells_them_apart(self):
        calls = [begins(8, 8), own(0, 0), may(), depth()]
        self.assertEqual(ask_all(*calls)[3], [1])


class More(unittest.TestCase):
    def test_two_that_each_tell_something_else_apart(self):
        self.assertEqual(last(NINE, own(0, 0), own(2, 2), depth()), [2])
        self.assertEqual(last(NINE, HALVES, within(0, 1, 4), depth()), [2])

    def test_towers_that_each_see_a_cell_of_their_own(self):
        calls = [begins(8, 8)]
        for count in range(1, 6):
            calls = calls + [own(count, 7)]
            self.assertEqual(last(*calls, depth()), [count])

    def test_the_last_cell_need_not_be_asked_for(self):
        calls = [own(0, 0), own(1, 0), own(0, 1), depth(), own(1, 1), depth()]
        self.assertEqual(ask_all(*calls)[3:], [[3], [3], [3]])

    def test_reports_take_away_what_is_to_be_asked(self):
        calls = [begins(8, 8)] + [own(x, 0) for x in range(5)]
        for number in range(5):
            calls += [report(number, 1), depth()]
        self.assertEqual(ask_all(*calls)[7::2], [[4], [3], [2], [1], [0]])

    def test_another_tower_adds_to_it(self):
        calls = [NINE, own(0, 0), depth(), own(1, 0), depth(), BLIND, depth(), own(0, 0), depth(), own(2, 0), depth()]
        self.assertEqual(ask_all(*calls)[2::2], [[1], [2], [2], [2], [3]])


class TheWorst(unittest.TestCase):
    def test_counts_not_the_mean(self):
        # Two of the three that tower 0 may tell end it; the third leaves cells that take two more.
        calls = [begins(4, 2), tower(0, 0, 1, (1, 0), (0, 1)), own(3, 1), own(3, 0), depth()]
        self.assertEqual(last(*calls), [3])
        # The mean over 64 cells is below 5, for those of one cell are found sooner.
        five = [begins(8, 8)] + [own(x, x) for x in range(5)] + [depth()]
        self.assertEqual(last(*five), [5])

    def test_counts_not_the_best_that_may_be_told(self):
        # If tower 0 sees it, nobody else is asked; if not, one more is.
        calls = [NINE, own(0, 0), own(1, 0)]
        self.assertEqual(last(*calls, report(0, 0), depth()), [0])
        self.assertEqual(last(*calls, report(0, 1), depth()), [1])
        self.assertEqual(last(*calls, depth()), [2])

    def test_counts_not_the_largest_group_of_cells(self):
        # Tower 0 tells 4 cells from the 12 others; in the 12 nobody tells more, in the 4 two do.
        calls = [begins(4, 4), tower(0, 0, 200, (0, 1), (-1, 0)), own(0, 1), own(0, 2)]
        self.assertEqual(last(*calls, report(0, 1), may())[0], 12)
        self.assertEqual(last(*calls, report(0, 1), depth()), [0])
        self.assertEqual(last(*calls, report(0, 0), may())[0], 4)
        self.assertEqual(last(*calls, report(0, 0), depth()), [2])
        self.assertEqual(last(*calls, depth()), [3])


class ByWhatWasTold(unittest.TestCase):
    def test_who_is_asked_next(self):
        # Tower 0 tells the rows of y 2 and 3 from the others; in each part one other tower has something to tell.
        halves = tower(0, 2, 200, (1, 0), (-1, 0))
        calls = [begins(4, 4), halves, own(3, 0), own(3, 3)]
        for what, silent in ((0, 1), (1, 2)):
            self.assertEqual(last(*calls, report(0, what), depth()), [1])
            self.assertEqual(last(*calls, report(0, what), report(silent, 1), depth()), [1])
        self.assertEqual(last(*calls, depth()), [2])

    def test_five_towers_of_which_three_are_asked(self):
        # Tower 0 tells two parts apart; in each two of the others have something to tell.
        parts = tower(2, 2, 200, (1, 0), (-1, 0))
        calls = [begins(4, 4), parts, own(0, 0), own(1, 0), own(3, 3), own(2, 3)]
        self.assertEqual(last(*calls, report(0, 0), depth()), [2])
        self.assertEqual(last(*calls, report(0, 1), depth()), [2])
        self.assertEqual(last(*calls, depth()), [3])


class AskNamesAnother(unittest.TestCase):
    def check(self, calls, marks, named, left, first, least):
        """ask names one tower, by which a least way doesn't begin; with another one it does."""
        self.assertEqual(last(*calls, ask()), [named, left])
        self.assertEqual(last(*calls, depth()), [least])
        self.assertEqual(depth_by_asking_first(calls, named, marks[named]), least + 1)
        self.assertEqual(depth_by_asking_first(calls, first, marks[first]), least)

    def test_one_against_two(self):
        # Of the cells 0 to 3 the towers tell 0 0 1 1 and 0 0 1 2.
        calls = [begins(2, 2), tower(1, 0, 2, (-1, 0), (0, -1)), tower(0, 0, 1, (1, 0), (0, 1))]
        self.assertEqual([last(*calls, sees(0, cell)) for cell in range(4)], [[0], [0], [1], [1]])
        self.assertEqual([last(*calls, sees(1, cell)) for cell in range(4)], [[0], [0], [1], [2]])
        self.check(calls, [2, 2], 0, 2, 1, 1)

    def test_two_against_three(self):
        # Seen are cell 0; the cells 1, 2, 5; the cells 1, 2, 4, 5.
        calls = [begins(3, 2), within(0, 0, 0), within(2, 0, 1), within(2, 0, 2)]
        self.check(calls, [1, 1, 1], 1, 3, 2, 2)

    def test_three_against_four(self):
        # Seen are the cells 0, 1, 2, 4; cell 1; the cells 0, 1, 3, 4; the cells 1, 2, 4, 5.
        calls = [begins(3, 2), within(1, 0, 1), within(1, 0, 0), within(0, 1, 2), within(2, 0, 2)]
        depths = [depth_by_asking_first(calls, number, 1) for number in range(4)]
        self.assertEqual(last(*calls, ask()), [0, 4])
        self.assertEqual(last(*calls, depth()), [3])
        self.assertEqual(depths[0], 4)
        self.assertEqual(min(depths), 3)


class Large(unittest.TestCase):
    FIVE = [
        tower(0, 0, 200, (1, 0), (3, 1), (1, 1), (1, 3), (0, 1)),
        tower(7, 0, 50, (0, 1), (-1, 1), (-1, 0)),
        tower(3, 4, 9, *EIGHT),
        tower(7, 7, 40, (-1, 0), (-2, -1), (-1, -2), (0, -1)),
        tower(2, 6, 13, (1, -1), (10, -1)),
    ]

    def test_five_towers_in_8_by_8(self):
        reckoned = Reckoned()
        for call in [begins(8, 8), *self.FIVE]:
            self.assertGreaterEqual(reckoned.call(call)[0], 0)
        found = last(begins(8, 8), *self.FIVE, depth())
        self.assertEqual(found, reckoned.call(depth()))
        self.assertGreater(found[0], 1)

    def test_forty_calls_of_depth(self):
        self.assertEqual(ask_all(*[depth()] * 40), [[0]] * 40)
        found = ask_all(begins(8, 8), *self.FIVE, *[depth()] * 34)[6:]
        self.assertEqual(found, [last(begins(8, 8), *self.FIVE, depth())] * 34)


class Unchanged(unittest.TestCase):
    def test_all_is_left_as_it_was(self):
        calls = [NINE, own(0, 0), HALVES, depth(), depth(), ask(), may(), report(1, 0), depth(), depth(), may()]
        five = [5, 4, 5, 6, 7, 8]
        self.assertEqual(ask_all(*calls)[3:], [[2], [2], [1, 5], [9] + list(range(9)), [5], [0], [0], five])


if __name__ == "__main__":
    unittest.main()
