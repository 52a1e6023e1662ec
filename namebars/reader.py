"""Takes the calls one by one out of the one list in which they lie."""

# For each call, how many whole numbers it has, and how many rows behind them.
SHAPES = {
    0: (2, 0),
    1: (4, 1),
    2: (4, 3),
    3: (4, 0),
    4: (4, 0),
    5: (3, 0),
    6: (4, 0),
    7: (4, 0),
    8: (4, 0),
    9: (3, 0),
    10: (2, 0),
    11: (2, 0),
    12: (2, 0),
    13: (2, 0),
    14: (2, 0),
    15: (2, 0),
    16: (2, 0),
    17: (2, 0),
    18: (3, 0),
    19: (3, 0),
    20: (1, 0),
    21: (1, 1),
    22: (1, 0),
    23: (0, 0),
}


class Call:

    def __init__(self, number, numbers, rows):
        self.number = number
        self.numbers = numbers
        self.rows = rows


class Reader:
    """Moves a place along the list that was handed in, which itself stays as it is."""

    def __init__(self, calls):
        self.calls = calls
        self.place = 0

    def is_done(self):
        return self.place >= len(self.calls)

    def take_numbers(self, how_many):
        start = self.place
        self.place = start + how_many
        return self.calls[start:self.place]

    def take_number(self):
        return self.take_numbers(1)[0]

    def take_row(self):
        return self.take_numbers(self.take_number())

    def take_call(self):
        number = self.take_number()
        shape = SHAPES[number]
        numbers = self.take_numbers(shape[0])
        rows = [self.take_row() for turn in range(shape[1])]
        return Call(number, numbers, rows)
