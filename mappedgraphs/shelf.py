"""The object that the calls are made on: the graphs that stand, and what can be taken back.

What can be taken back is kept as the graphs stood ahead of each change, the oldest first. A list of graphs is
never changed once it stands, so the lists themselves are kept.
"""

MOST_GRAPHS = 4
MOST_TAKEN_BACK = 10


class Shelf:
    def __init__(self):
        self.begun = False
        self.graphs = []
        self.past = []

    def begin_anew(self):
        self.begun = True
        self.graphs = []
        self.past = []

    def is_full(self):
        return len(self.graphs) == MOST_GRAPHS

    def change_to(self, graphs):
        self.past = (self.past + [self.graphs])[-MOST_TAKEN_BACK:]
        self.graphs = graphs

    def put_behind(self, graph):
        self.change_to(self.graphs + [graph])

    def put_in_place(self, which, graph):
        self.change_to(self.graphs[:which] + [graph] + self.graphs[which + 1:])

    def take_out(self, which):
        self.change_to(self.graphs[:which] + self.graphs[which + 1:])

    def take_back(self):
        self.graphs = self.past[-1]
        self.past = self.past[:-1]
