"""A country with its towers and reports, and the calls on it."""

from firewatch.bearings import Tower, go_round, marks_from

BEGINS = 0
TOWER = 1
REPORT = 2
MAY = 3

SHORTEST_SIDE = 2
LONGEST_SIDE = 8
FARTHEST = 200
MOST_TOWERS = 5
MOST_MARK_NUMBERS = 16
HIGHEST_MARK_NUMBER = 20

OUT_OF_BOUNDS = -1
NO_SUCH_TOWER = -2
MARKS_NOT_ROUND = -3
HAS_REPORTED = -4
TOO_MANY_TOWERS = -5
NO_CELL_LEFT = -6


class UnknownCall(ValueError):
    pass


def is_side(length):
    return SHORTEST_SIDE <= length and length <= LONGEST_SIDE


def are_mark_numbers(numbers):
    if len(numbers) % 2 != 0 or len(numbers) > MOST_MARK_NUMBERS:
        return False
    return all([number <= HIGHEST_MARK_NUMBER for number in numbers])


class Country:
    def __init__(self):
        self.wide = SHORTEST_SIDE
        self.high = SHORTEST_SIDE
        self.towers = []
        self.reports = {}

    def begin(self, wide, high):
        if not is_side(wide) or not is_side(high):
            return OUT_OF_BOUNDS
        self.wide = wide
        self.high = high
        self.towers = []
        self.reports = {}
        return 0

    def add_tower(self, x, y, far, numbers):
        if x >= self.wide or y >= self.high or far > FARTHEST or not are_mark_numbers(numbers):
            return OUT_OF_BOUNDS
        marks = marks_from(numbers)
        if not go_round(marks):
            return MARKS_NOT_ROUND
        if len(self.towers) >= MOST_TOWERS:
            return TOO_MANY_TOWERS
        self.towers.append(Tower(x, y, far, marks))
        return len(self.towers) - 1

    def told_of(self, number, cell):
        return self.towers[number].tells(cell % self.wide, cell // self.wide)

    def fits_reports(self, cell):
        for number in self.reports:
            if self.told_of(number, cell) != self.reports[number]:
                return False
        return True

    def cells_left(self):
        return [cell for cell in range(self.wide * self.high) if self.fits_reports(cell)]

    def take_report(self, number, what):
        if number >= len(self.towers):
            return NO_SUCH_TOWER
        if what > len(self.towers[number].marks):
            return OUT_OF_BOUNDS
        if number in self.reports:
            return HAS_REPORTED
        # Counted ahead of keeping the report: a refused one must leave all as it was.
        count = len([cell for cell in self.cells_left() if self.told_of(number, cell) == what])
        if count == 0:
            return NO_CELL_LEFT
        self.reports[number] = what
        return count


def call_length(calls, start):
    kind = calls[start]
    if kind == BEGINS or kind == REPORT:
        return 3
    if kind == TOWER:
        return 5 + calls[start + 4]
    if kind == MAY:
        return 1
    raise UnknownCall(f"no such call: {kind}")


def answer(country, call):
    kind = call[0]
    if kind == BEGINS:
        return [country.begin(call[1], call[2])]
    if kind == TOWER:
        return [country.add_tower(call[1], call[2], call[3], call[5:])]
    if kind == REPORT:
        return [country.take_report(call[1], call[2])]
    cells = country.cells_left()
    return [len(cells)] + cells


def answers(calls):
    country = Country()
    answered = []
    start = 0
    while start < len(calls):
        end = start + call_length(calls, start)
        numbers = answer(country, calls[start:end])
        answered.append(len(numbers))
        answered.extend(numbers)
        start = end
    return answered
