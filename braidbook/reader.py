"""Reads the calls out of the one list that they are handed in as."""

# Of each call how many whole numbers it has, and how many rows behind them.
SHAPES = {
    1: (0, 2),
    2: (0, 1),
    3: (1, 1),
    4: (1, 1),
    5: (0, 1),
    6: (0, 2),
    7: (0, 2),
    8: (0, 2),
    9: (1, 1),
    10: (2, 0),
    11: (0, 1),
    12: (0, 1),
    13: (2, 1),
    14: (3, 0),
    15: (2, 0),
    16: (3, 0),
    17: (3, 0),
    18: (3, 0),
    19: (2, 0),
    20: (2, 0),
    21: (1, 0),
    22: (1, 0),
    23: (1, 0),
    24: (2, 1),
}


class Call:
    def __init__(self, number, numbers, rows):
        self.number = number
        self.numbers = numbers
        self.rows = rows


class Reader:
    def __init__(self, calls):
        self.calls = calls
        self.at = 0

    def is_done(self):
        return self.at >= len(self.calls)

    def take_number(self):
        number = self.calls[self.at]
        self.at = self.at + 1
        return number

    def take_numbers(self, how_many):
        start = self.at
        self.at = start + how_many
        return self.calls[start:self.at]

    def take_call(self):
        number = self.take_number()
        shape = SHAPES[number]
        numbers = self.take_numbers(shape[0])
        rows = []
        while len(rows) < shape[1]:
            how_many = self.take_number()
            rows.append(self.take_numbers(how_many))
        return Call(number, numbers, rows)
