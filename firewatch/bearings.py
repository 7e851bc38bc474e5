"""Directions round a tower, and what a tower tells of smoke in a cell.

A direction is a pair: how much along x, how much along y, not both 0.
"""

ADDED_TO_MARKS = 10


def half_of_round(direction):
    if direction[1] > 0 or (direction[1] == 0 and direction[0] > 0):
        return 0
    return 1


def comes_before(first, second):
    first_half = half_of_round(first)
    second_half = half_of_round(second)
    if first_half != second_half:
        return first_half < second_half
    # Two directions of one half are less than a half round apart, so the
    # sign of this tells their order, whatever their lengths.
    return first[0] * second[1] - first[1] * second[0] > 0


def marks_from(numbers):
    return [(numbers[k] - ADDED_TO_MARKS, numbers[k + 1] - ADDED_TO_MARKS) for k in range(0, len(numbers), 2)]


def go_round(marks):
    if (0, 0) in marks:
        return False
    for i in range(1, len(marks)):
        if not comes_before(marks[i - 1], marks[i]):
            return False
    return True


def sector_of(direction, marks):
    # Directions before mark 0 are of the last sector, so it starts there.
    sector = len(marks) - 1
    for i in range(len(marks)):
        if not comes_before(direction, marks[i]):
            sector = i
    return sector


class Tower:
    def __init__(self, x, y, far, marks):
        self.x = x
        self.y = y
        self.far = far
        self.marks = marks

    def tells(self, x, y):
        along_x = x - self.x
        along_y = y - self.y
        none = len(self.marks)
        if none == 0 or along_x * along_x + along_y * along_y > self.far:
            return none
        if along_x == 0 and along_y == 0:
            return 0
        return sector_of((along_x, along_y), self.marks)
