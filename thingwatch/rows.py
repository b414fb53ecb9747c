"""Rows of whole numbers: read from their front, and as one number."""


class NotRight(ValueError):
    pass


class Reader:
    def __init__(self, row):
        self.row = row
        self.place = 0

    def left(self):
        return len(self.row) - self.place

    def ahead(self):
        return self.row[self.place]

    def take(self, length):
        if length > self.left():
            raise NotRight("cut short")
        start = self.place
        self.place = start + length
        return self.row[start:self.place]

    def take_one(self):
        return self.take(1)[0]


def whole(row):
    number = 0
    for byte in row:
        number = number * 256 + byte
    return number


def short(number):
    row = []
    left = number
    while left > 0:
        row.insert(0, left % 256)
        left = left // 256
    return row
