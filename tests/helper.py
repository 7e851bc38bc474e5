"""Calls written by name, their answers one by one, and a second reckoning of all calls by the words."""

from fractions import Fraction

from firewatch.country import answers

HIGHEST = 4294967295


def begins(wide, high):
    return [0, wide, high]


def tower_told(x, y, far, numbers):
    return [1, x, y, far, len(numbers)] + list(numbers)


def tower(x, y, far, *marks):
    numbers = []
    for along_x, along_y in marks:
        numbers += [along_x + 10, along_y + 10]
    return tower_told(x, y, far, numbers)


def report(number, what):
    return [2, number, what]


def may():
    return [3]


def sees(number, cell):
    return [4, number, cell]


def ask():
    return [5]


def depth():
    return [6]


def split(answered):
    parts = []
    at = 0
    while at < len(answered):
        parts.append(answered[at + 1:at + 1 + answered[at]])
        if len(parts[-1]) != answered[at]:
            raise ValueError("an answer is shorter than it says")
        at += 1 + answered[at]
    return parts


def ask_all(*calls):
    line = []
    for call in calls:
        line += call
    parts = split(answers(line))
    if len(parts) != len(calls):
        raise ValueError("there are not as many answers as calls")
    return parts


def last(*calls):
    return ask_all(*calls)[-1]


def turn(direction):
    """How far round a direction is, from 0 to 4 (left out), exactly: along the edge of a square on its tip."""
    x, y = direction
    across = Fraction(abs(y), abs(x) + abs(y))
    if y >= 0 and x > 0:
        return across
    if y > 0:
        return 2 - across
    if x < 0:
        return 2 + across
    return 4 - across


def tells(place, far, marks, cell):
    """What a tower tells, by the words alone; place and cell are pairs of x and y."""
    x, y = cell[0] - place[0], cell[1] - place[1]
    if not marks or x * x + y * y > far:
        return len(marks)
    if (x, y) == (0, 0):
        return 0
    here = turn((x, y))
    for i in range(len(marks) - 1):
        if turn(marks[i]) <= here < turn(marks[i + 1]):
            return i
    return len(marks) - 1


def groups(told, cells):
    return [[cell for cell in cells if told[cell] == what] for what in {told[cell] for cell in cells}]


def is_done(open_told, cells):
    return all(told[one] == told[other] for told in open_told for one in cells for other in cells)


def can_be_done(open_told, cells, count):
    """Whether some way of asking that asks at most so many towers is done; it may ask any tower, again too."""
    if is_done(open_told, cells):
        return True
    return count > 0 and any(
        all(can_be_done(open_told, group, count - 1) for group in groups(told, cells)) for told in open_told
    )


class Reckoned:
    """The calls answered by the document's words, as plainly as can be; each call is a list of its own."""

    def __init__(self):
        self.wide, self.high, self.towers, self.told, self.reports = 2, 2, [], [], {}

    def cells(self):
        return [
            cell for cell in range(self.wide * self.high)
            if all(self.told[number][cell] == what for number, what in self.reports.items())
        ]

    def open_numbers(self):
        return [number for number in range(len(self.towers)) if number not in self.reports]

    def begins(self, wide, high):
        if not 2 <= wide <= 8 or not 2 <= high <= 8:
            return [-1]
        self.wide, self.high, self.towers, self.told, self.reports = wide, high, [], [], {}
        return [0]

    def tower(self, x, y, far, count, *numbers):
        if x >= self.wide or y >= self.high or far > 200 or count % 2 or count > 16 or max(numbers, default=0) > 20:
            return [-1]
        marks = [(numbers[k] - 10, numbers[k + 1] - 10) for k in range(0, count, 2)]
        if (0, 0) in marks:
            return [-3]
        turns = [turn(mark) for mark in marks]
        if turns != sorted(set(turns)):
            return [-3]
        if len(self.towers) == 5:
            return [-5]
        self.towers.append(marks)
        places = [(cell % self.wide, cell // self.wide) for cell in range(self.wide * self.high)]
        self.told.append([tells((x, y), far, marks, place) for place in places])
        return [len(self.towers) - 1]

    def report(self, number, what):
        if number >= len(self.towers):
            return [-2]
        if what > len(self.towers[number]):
            return [-1]
        if number in self.reports:
            return [-4]
        left = [cell for cell in self.cells() if self.told[number][cell] == what]
        if not left:
            return [-6]
        self.reports[number] = what
        return [len(left)]

    def may(self):
        return [len(self.cells())] + self.cells()

    def sees(self, number, cell):
        if number >= len(self.towers) or cell >= self.wide * self.high:
            return [-2]
        return [self.told[number][cell]]

    def ask(self):
        leaves = {
            number: max(len(group) for group in groups(self.told[number], self.cells()))
            for number in self.open_numbers()
        }
        for number in leaves:
            if leaves[number] == min(leaves.values()):
                return [number, leaves[number]]
        return [-6]

    def depth(self):
        open_told = [self.told[number] for number in self.open_numbers()]
        for count in range(6):
            if can_be_done(open_told, self.cells(), count):
                return [count]
        raise ValueError("no way of asking is done")

    def call(self, numbers):
        names = ("begins", "tower", "report", "may", "sees", "ask", "depth")
        return getattr(self, names[numbers[0]])(*numbers[1:])
