import random
import unittest

from firewatch.country import UnknownCall, answers
from tests.helper import (
    HIGHEST, Reckoned, ask, ask_all, begins, depth, may, report, sees, split, tower, tower_told, turn,
)

HALVES = tower(1, 1, 9, (1, 0), (-1, 0))
OWN = tower(0, 0, 0, (1, 0))
EVERY = [
    ask(), depth(), may(), sees(0, 0), report(0, 0),
    begins(3, 2), begins(3, 9), OWN, tower(3, 0, 5), sees(0, 0), sees(0, 5), sees(0, 6), sees(1, 0),
    tower(2, 1, 1, (0, 1), (-1, 0)), tower(2, 1, 1, (-1, 0), (0, 1)), ask(), depth(), report(0, 2), report(2, 0),
    report(0, 1), report(0, 1), may(), ask(), depth(), report(1, 2), sees(1, 2), ask(), depth(), may(),
    HALVES, ask(), depth(), begins(2, 2), ask(), depth(), sees(0, 0), may(),
]
EVERY_ANSWERED = [
    [-6], [0], [4, 0, 1, 2, 3], [-2], [-2],
    [0], [-1], [0], [-1], [0], [1], [-2], [-2],
    [1], [-3], [1, 3], [2], [-1], [-2],
    [5], [-4], [5, 1, 2, 3, 4, 5], [1, 2], [1], [2], [1], [-6], [0], [2, 1, 3],
    [2], [2, 2], [0], [0], [-6], [0], [-2], [4, 0, 1, 2, 3],
]


class Untouchable(list):
    """A list that may be read only, so that it isn't changed for a while either."""

    def refuse(self, *args, **kwargs):
        raise AssertionError("the list handed in was changed")

    append = clear = extend = insert = pop = remove = reverse = sort = refuse
    __setitem__ = __delitem__ = __iadd__ = __imul__ = refuse


def joined(calls):
    return [number for call in calls for number in call]


def some_marks(dice):
    reach = dice.choice((1, 1, 2, 10))
    marks = {}
    for _ in range(dice.choice((0, 1, 1, 2, 2, 3, 4, 8))):
        mark = (dice.randint(-reach, reach), dice.randint(-reach, reach))
        if mark != (0, 0):
            marks[turn(mark)] = mark
    return [number + 10 for angle in sorted(marks) for number in marks[angle]]


def some_tower(dice, most):
    numbers = some_marks(dice)
    if dice.random() < 0.1:
        numbers = dice.choice((numbers[::-1], numbers + [10], numbers + [10, 10], numbers + [21, 9], [11] * 18))
    far = dice.choice((0, 1, 2, 4, 5, 9, 25, 200, 201)) if dice.random() < 0.9 else HIGHEST
    return tower_told(dice.randrange(most), dice.randrange(most), far, numbers)


def some_call(dice, most):
    """A call that is refused now and then; towers and reports come often enough that there is something to ask."""
    kind = dice.choices(range(7), (1, 8, 4, 2, 4, 4, 4))[0]
    if kind == 0:
        return begins(dice.randint(1, most + 1), dice.randint(1, most + 1))
    if kind == 1:
        return some_tower(dice, most)
    if kind == 2:
        return report(dice.randrange(6), dice.choice((0, 0, 1, 1, 2, 3, dice.randrange(10))))
    if kind == 4:
        return sees(dice.randrange(6), dice.choice((dice.randrange(most * most + 1), HIGHEST)))
    return [kind]


def some_line(dice):
    most = dice.choice((2, 3, 4, 5, 8))
    first = [begins(dice.randint(2, most), dice.randint(2, most))] if dice.random() < 0.8 else []
    return first + [some_call(dice, most) for _ in range(dice.randint(1, 39))]


class InOneList(unittest.TestCase):
    def test_all_seven_refused_ones_among_them(self):
        self.assertEqual(ask_all(*EVERY), EVERY_ANSWERED)

    def test_in_any_order_as_the_words_say(self):
        dice = random.Random(1116)
        seen = set()
        for _ in range(600):
            calls = some_line(dice)
            reckoned = Reckoned()
            expected = [reckoned.call(call) for call in calls]
            self.assertEqual(ask_all(*calls), expected, calls)
            seen.update((call[0], answer[0]) for call, answer in zip(calls, expected) if answer[0] < 0)
            seen.update((6, answer[0]) for call, answer in zip(calls, expected) if call[0] == 6)
        refusals = {(0, -1), (1, -1), (1, -3), (1, -5), (2, -2), (2, -1), (2, -4), (2, -6), (4, -2), (5, -6)}
        self.assertEqual(seen - refusals, {(6, count) for count in range(5)})
        self.assertEqual(refusals - seen, set())

    def test_a_call_that_is_none(self):
        with self.assertRaises(UnknownCall):
            answers([7])


class Unchanged(unittest.TestCase):
    def test_by_sees_ask_and_depth(self):
        dice = random.Random(611)
        for _ in range(60):
            calls = some_line(dice)[:10]
            plain = ask_all(*calls)
            asked = [sees(dice.randrange(6), dice.randrange(70)), ask(), depth()]
            dice.shuffle(asked)
            between = joined([[call, *asked] for call in calls])
            self.assertEqual(ask_all(*between)[::4], plain, calls)

    def test_by_a_refusal(self):
        refused = [begins(1, 2), tower(8, 8, 5), report(5, 0), sees(5, 0), tower(0, 0, 5, (0, 0))]
        for call in refused:
            calls = [begins(3, 3), HALVES, OWN, call, report(0, 0), call, ask(), depth(), may(), sees(1, 0)]
            found = ask_all(*calls)[4:]
            self.assertLess(found[1][0], 0)
            self.assertEqual(found[:1] + found[2:], [[5], [1, 5], [0], [5, 4, 5, 6, 7, 8], [0]])

    def test_by_ask_when_it_is_refused(self):
        calls = [begins(3, 3), HALVES, report(0, 0), ask(), may(), depth(), OWN, ask()]
        self.assertEqual(ask_all(*calls)[3:], [[-6], [5, 4, 5, 6, 7, 8], [0], [1], [1, 5]])


class BeginsInTheMidst(unittest.TestCase):
    def test_it_is_as_if_nothing_had_been_before(self):
        after = [may(), ask(), depth(), sees(0, 0), report(0, 0), OWN, ask(), depth(), sees(0, 3), sees(0, 4)]
        before = [begins(3, 3), HALVES, OWN, HALVES, report(0, 0), report(1, 1), ask(), depth()]
        for wide, high in ((2, 2), (2, 3), (8, 8)):
            alone = ask_all(begins(wide, high), *after)
            self.assertEqual(ask_all(*before, begins(wide, high), *after)[len(before):], alone)

    def test_not_if_it_is_refused(self):
        before = [begins(3, 3), HALVES, OWN, report(0, 0)]
        after = [may(), ask(), depth(), sees(0, 8), sees(1, 8)]
        self.assertEqual(ask_all(*before, begins(2, 9), *after)[5:], ask_all(*before, *after)[4:])


class HandedIn(unittest.TestCase):
    def test_it_is_the_same_afterwards(self):
        line = joined(EVERY)
        copied = list(line)
        answers(line)
        self.assertEqual(line, copied)

    def test_it_is_not_changed_for_a_while_either(self):
        self.assertEqual(split(answers(Untouchable(joined(EVERY)))), EVERY_ANSWERED)

    def test_the_same_list_twice_gives_the_same(self):
        line = joined(EVERY)
        first = answers(line)
        answers(joined([begins(8, 8), HALVES, OWN, report(0, 0), ask(), depth()]))
        self.assertEqual(answers(line), first)

    def test_nothing_is_shared_between_two_answers(self):
        line = joined(EVERY)
        first = answers(line)
        copied = list(first)
        first.clear()
        self.assertEqual(answers(line), copied)


if __name__ == "__main__":
    unittest.main()
