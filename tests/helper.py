"""Calls written by name, their answers one by one, and a second reckoning of what towers tell."""

from fractions import Fraction

from firewatch.country import answers

HIGHEST = 4294967295


def begins(wide, high):
    return [0, wide, high]


def tower_told(x, y, far, numbers):
    return [1, x, y, far, len(numbers)] + list(numbers)


def tower(x, y, far, *marks):
    numbers = []
    for along_x, along_y in marks:
        numbers += [along_x + 10, along_y + 10]
    return tower_told(x, y, far, numbers)


def report(number, what):
    return [2, number, what]


def may():
    return [3]


def split(answered):
    parts = []
    at = 0
    while at < len(answered):
        parts.append(answered[at + 1:at + 1 + answered[at]])
        if len(parts[-1]) != answered[at]:
            raise ValueError("an answer is shorter than it says")
        at += 1 + answered[at]
    return parts


def ask_all(*calls):
    line = []
    for call in calls:
        line += call
    parts = split(answers(line))
    if len(parts) != len(calls):
        raise ValueError("there are not as many answers as calls")
    return parts


def last(*calls):
    return ask_all(*calls)[-1]


def turn(direction):
    """How far round a direction is, from 0 to 4 (left out), exactly: along the edge of a square on its tip."""
    x, y = direction
    across = Fraction(abs(y), abs(x) + abs(y))
    if y >= 0 and x > 0:
        return across
    if y > 0:
        return 2 - across
    if x < 0:
        return 2 + across
    return 4 - across


def tells(place, far, marks, cell):
    """What a tower tells, by the words alone; place and cell are pairs of x and y."""
    x, y = cell[0] - place[0], cell[1] - place[1]
    if not marks or x * x + y * y > far:
        return len(marks)
    if (x, y) == (0, 0):
        return 0
    here = turn((x, y))
    for i in range(len(marks) - 1):
        if turn(marks[i]) <= here < turn(marks[i + 1]):
            return i
    return len(marks) - 1
