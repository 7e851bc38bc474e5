"""A country with its towers and reports, and the calls on it."""

from firewatch.bearings import Tower, go_round, marks_from

BEGINS = 0
TOWER = 1
REPORT = 2
MAY = 3
SEES = 4
ASK = 5
DEPTH = 6

SHORTEST_SIDE = 2
LONGEST_SIDE = 8
FARTHEST = 200
MOST_TOWERS = 5
MOST_MARK_NUMBERS = 16
HIGHEST_MARK_NUMBER = 20

OUT_OF_BOUNDS = -1
NOT_THERE = -2
MARKS_NOT_ROUND = -3
HAS_REPORTED = -4
TOO_MANY_TOWERS = -5
NO_CELL_LEFT = -6
NOBODY_TO_ASK = -6


class UnknownCall(ValueError):
    pass


def is_side(length):
    return SHORTEST_SIDE <= length and length <= LONGEST_SIDE


def are_mark_numbers(numbers):
    if len(numbers) % 2 != 0 or len(numbers) > MOST_MARK_NUMBERS:
        return False
    return all([number <= HIGHEST_MARK_NUMBER for number in numbers])


def groups_told_the_same(told, cells):
    groups = {}
    for cell in cells:
        if told[cell] not in groups:
            groups[told[cell]] = []
        groups[told[cell]].append(cell)
    return list(groups.values())


def most_told_the_same(told, cells):
    return max([len(group) for group in groups_told_the_same(told, cells)])


def least_asked_at_worst(told_by_each, cells):
    # It stays 0 if no tower tells these cells apart: then a way of asking may end here.
    least = 0
    for k in range(len(told_by_each)):
        groups = groups_told_the_same(told_by_each[k], cells)
        # A tower that tells the same of all these cells brings nothing new, so a least way does without it.
        if len(groups) > 1:
            others = told_by_each[:k] + told_by_each[k + 1:]
            asked = 1 + max([least_asked_at_worst(others, group) for group in groups])
            if least == 0 or asked < least:
                least = asked
    return least


class Country:
    def __init__(self):
        self.wide = SHORTEST_SIDE
        self.high = SHORTEST_SIDE
        self.towers = []
        self.reports = {}

    def begin(self, wide, high):
        if not is_side(wide) or not is_side(high):
            return OUT_OF_BOUNDS
        self.wide = wide
        self.high = high
        self.towers = []
        self.reports = {}
        return 0

    def add_tower(self, x, y, far, numbers):
        if x >= self.wide or y >= self.high or far > FARTHEST or not are_mark_numbers(numbers):
            return OUT_OF_BOUNDS
        marks = marks_from(numbers)
        if not go_round(marks):
            return MARKS_NOT_ROUND
        if len(self.towers) >= MOST_TOWERS:
            return TOO_MANY_TOWERS
        self.towers.append(Tower(x, y, far, marks))
        return len(self.towers) - 1

    def told_of(self, number, cell):
        return self.towers[number].tells(cell % self.wide, cell // self.wide)

    def fits_reports(self, cell):
        for number in self.reports:
            if self.told_of(number, cell) != self.reports[number]:
                return False
        return True

    def told_by(self, number):
        return [self.told_of(number, cell) for cell in range(self.wide * self.high)]

    def not_reported(self):
        return [number for number in range(len(self.towers)) if number not in self.reports]

    def cells_left(self):
        return [cell for cell in range(self.wide * self.high) if self.fits_reports(cell)]

    def take_report(self, number, what):
        if number >= len(self.towers):
            return NOT_THERE
        if what > len(self.towers[number].marks):
            return OUT_OF_BOUNDS
        if number in self.reports:
            return HAS_REPORTED
        # Counted ahead of keeping the report: a refused one must leave all as it was.
        count = len([cell for cell in self.cells_left() if self.told_of(number, cell) == what])
        if count == 0:
            return NO_CELL_LEFT
        self.reports[number] = what
        return count

    def sees(self, number, cell):
        if number >= len(self.towers) or cell >= self.wide * self.high:
            return NOT_THERE
        return self.told_of(number, cell)

    def whom_to_ask(self):
        numbers = self.not_reported()
        if len(numbers) == 0:
            return [NOBODY_TO_ASK]
        cells = self.cells_left()
        # Pairs are compared by what is left first, so of several as low the lowest number is taken.
        least = min([(most_told_the_same(self.told_by(number), cells), number) for number in numbers])
        return [least[1], least[0]]

    def depth(self):
        told_by_each = [self.told_by(number) for number in self.not_reported()]
        return least_asked_at_worst(told_by_each, self.cells_left())


def call_length(calls, start):
    kind = calls[start]
    if kind in (BEGINS, REPORT, SEES):
        return 3
    if kind == TOWER:
        return 5 + calls[start + 4]
    if kind in (MAY, ASK, DEPTH):
        return 1
    raise UnknownCall(f"no such call: {kind}")


def answer(country, call):
    kind = call[0]
    if kind == BEGINS:
        return [country.begin(call[1], call[2])]
    if kind == TOWER:
        return [country.add_tower(call[1], call[2], call[3], call[5:])]
    if kind == REPORT:
        return [country.take_report(call[1], call[2])]
    if kind == MAY:
        cells = country.cells_left()
        return [len(cells)] + cells
    if kind == SEES:
        return [country.sees(call[1], call[2])]
    if kind == ASK:
        return country.whom_to_ask()
    return [country.depth()]


def answers(calls):
    country = Country()
    answered = []
    start = 0
    while start < len(calls):
        end = start + call_length(calls, start)
        numbers = answer(country, calls[start:end])
        answered.append(len(numbers))
        answered.extend(numbers)
        start = end
    return answered
