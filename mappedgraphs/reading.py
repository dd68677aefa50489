"""Reads the list of calls: where each begins, and what it tells."""

# For each call, by its number: how many graphs it tells, how many other whole numbers, how many rows.
# The graphs come first in every call, so that all calls can be refused alike where one isn't there.
SHAPES = (
    (0, 0, 0),  # begin
    (0, 1, 1),  # graph
    (1, 0, 0),  # drop
    (1, 2, 0),  # arrow
    (1, 2, 0),  # unarrow
    (1, 0, 0),  # turn
    (1, 0, 0),  # corein
    (2, 0, 0),  # both
    (2, 0, 0),  # beside
    (0, 0, 0),  # back
    (1, 0, 0),  # told
    (2, 0, 0),  # count
    (2, 0, 0),  # first
    (2, 1, 0),  # nth
    (2, 0, 1),  # is_map
    (2, 0, 0),  # kinds
    (2, 0, 0),  # below
    (2, 0, 0),  # same
    (1, 0, 0),  # core
    (1, 0, 0),  # fold
    (2, 0, 0),  # alike
    (2, 0, 0),  # differ
    (1, 1, 0),  # walks
    (1, 1, 0),  # rounds
    (1, 1, 0),  # tower
    (1, 0, 0),  # colours
    (1, 0, 0),  # least
    (0, 0, 0),  # order
    (0, 0, 0),  # state
)


class Call:
    def __init__(self, number, which, others, row):
        self.number = number
        self.which = which
        self.others = others
        self.row = row


class Reader:
    def __init__(self, numbers):
        self.numbers = numbers
        self.at = 0

    def is_done(self):
        return self.at >= len(self.numbers)

    def take(self, many):
        taken = self.numbers[self.at:self.at + many]
        self.at += many
        return taken

    def take_one(self):
        return self.take(1)[0]

    def take_call(self):
        number = self.take_one()
        shape = SHAPES[number]
        which = self.take(shape[0])
        others = self.take(shape[1])
        row = self.take(self.take_one()) if shape[2] == 1 else []
        return Call(number, which, others, row)
