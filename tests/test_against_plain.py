"""Many lines of calls, made by a fixed rule, answered by the program and by its plain double."""

import unittest
from itertools import permutations, product
from random import Random

from tests import calling

ODD_NUMBERS = (0, 1, 2, 3, 4, 5, 6, calling.LARGEST)


class Plain:
    """The program once more, as plainly as the document says it: sets of arrows, all ways tried."""

    def __init__(self):
        self.graphs = None
        self.past = []

    def answer(self, name, *told):
        if name == "begin":
            self.graphs = []
            self.past = []
            return [0]
        if self.graphs is None:
            return [-61]
        which = told[:GRAPHS_TOLD[name]]
        if any(i >= len(self.graphs) for i in which):
            return [-2]
        return getattr(self, name)(*told)

    def change(self, graphs):
        self.past.append(self.graphs)
        self.past = self.past[-10:]
        self.graphs = graphs

    def change_one(self, i, graph):
        graphs = list(self.graphs)
        graphs[i] = graph
        self.change(graphs)

    def one_more(self, graph):
        if len(self.graphs) == 4:
            return [-28]
        self.change(self.graphs + [graph])
        return [len(self.graphs) - 1]

    def graph(self, n, arrows):
        pairs = list(zip(arrows[::2], arrows[1::2]))
        if n not in (1, 2, 3, 4, 5) or len(arrows) % 2 or sorted(set(pairs)) != pairs:
            return [-22]
        if not set(arrows) <= set(range(n)):
            return [-22]
        return self.one_more((n, frozenset(pairs)))

    def drop(self, i):
        self.change([graph for at, graph in enumerate(self.graphs) if at != i])
        return [len(self.graphs)]

    def arrow(self, i, u, v):
        n, arrows = self.graphs[i]
        if max(u, v) >= n:
            return [-2]
        if (u, v) in arrows:
            return [-17]
        self.change_one(i, (n, arrows | {(u, v)}))
        return [len(arrows) + 1]

    def unarrow(self, i, u, v):
        n, arrows = self.graphs[i]
        if (u, v) not in arrows:
            return [-2]
        self.change_one(i, (n, arrows - {(u, v)}))
        return [len(arrows) - 1]

    def turn(self, i):
        n, arrows = self.graphs[i]
        self.change_one(i, (n, frozenset((v, u) for u, v in arrows)))
        return [0]

    def corein(self, i):
        core = core_of(self.graphs[i])
        self.change_one(i, core)
        return [core[0]]

    def both(self, i, j):
        n, arrows = self.graphs[i]
        m, others = self.graphs[j]
        if n * m > 5:
            return [-75]
        return self.one_more((n * m, frozenset((u * m + a, v * m + b) for u, v in arrows for a, b in others)))

    def beside(self, i, j):
        n, arrows = self.graphs[i]
        m, others = self.graphs[j]
        if n + m > 5:
            return [-75]
        return self.one_more((n + m, arrows | frozenset((n + u, n + v) for u, v in others)))

    def back(self):
        if not self.past:
            return [-6]
        self.graphs = self.past.pop()
        return [len(self.past)]

    def told(self, i):
        n, arrows = self.graphs[i]
        return [n, len(arrows)] + [number for pair in sorted(arrows) for number in pair]

    def count(self, i, j):
        return [len(all_maps(self.graphs[i], self.graphs[j]))]

    def first(self, i, j):
        return self.nth(i, j, 0)

    def nth(self, i, j, k):
        found = all_maps(self.graphs[i], self.graphs[j])
        return [len(found[k]), *found[k]] if k < len(found) else [-33]

    def is_map(self, i, j, given):
        n, arrows = self.graphs[i]
        m, others = self.graphs[j]
        filled = list(given) + [0] * n
        hit = {(filled[u], filled[v]) for u, v in arrows}
        return [
            int(len(given) == n and tuple(given) in all_maps(self.graphs[i], self.graphs[j])),
            int(all(given.count(number) == 1 for number in given)),
            int(set(range(m)) <= set(given)),
            int(others <= hit),
        ]

    def kinds(self, i, j):
        n, arrows = self.graphs[i]
        m, others = self.graphs[j]
        found = all_maps(self.graphs[i], self.graphs[j])
        each = [given for given in found if set(given) == set(range(m))]
        return [len(found), sum(len(set(given)) == n for given in found), len(each),
                sum({(given[u], given[v]) for u, v in arrows} == others for given in each)]

    def below(self, i, j):
        return [int(self.count(i, j) != [0]), int(self.count(j, i) != [0])]

    def same(self, i, j):
        return first_renaming(self.graphs[i], self.graphs[j])

    def core(self, i):
        places = sorted(set(fold_of(self.graphs[i])))
        return [len(places), *places]

    def fold(self, i):
        fold = fold_of(self.graphs[i])
        return [len(fold), *fold]

    def alike(self, i, j):
        return first_renaming(core_of(self.graphs[i]), core_of(self.graphs[j]))

    def differ(self, i, j):
        most = max(self.graphs[i][0], self.graphs[j][0])
        if most > 3:
            return [-75]
        for n in range(1, most + 1):
            for number in range(2 ** (n * n)):
                one = numbered(n, number)
                counts = [len(all_maps(one, self.graphs[which])) for which in (i, j)]
                if counts[0] != counts[1]:
                    return [n, number, *counts]
        return [-6]

    def walks(self, i, k):
        return [-22] if k > 12 else [sum(walks_between(self.graphs[i], k).values())]

    def rounds(self, i, k):
        n = self.graphs[i][0]
        return [-22] if k > 12 else [sum(walks_between(self.graphs[i], k).get((u, u), 0) for u in range(n))]

    def tower(self, i, k):
        if k not in (1, 2, 3, 4, 5, 6):
            return [-22]
        n, arrows = self.graphs[i]
        found = all_maps(self.graphs[i], (k, {(u, v) for v in range(k) for u in range(v)}))
        if found:
            return [1, *found[0]]
        return [0, *next(walk for walk in product(range(n), repeat=k + 1) if set(zip(walk, walk[1:])) <= arrows)]

    def colours(self, i):
        n, arrows = self.graphs[i]
        for given in product((0, 1), repeat=n):
            if all(given[u] != given[v] for u, v in arrows):
                return [1, *given]
        either = arrows | {(v, u) for u, v in arrows}
        for steps in (1, 3, 5):
            for walk in product(range(n), repeat=steps):
                closed = walk + walk[:1]
                if set(zip(closed, closed[1:])) <= either:
                    return [0, steps + 1, *closed]

    def least(self, i):
        n, arrows = self.graphs[i]
        if any(u == v for u, v in arrows):
            return [-33]
        for many in range(1, n + 1):
            for given in product(range(many), repeat=n):
                if all(given[u] != given[v] for u, v in arrows):
                    return [many, *given]

    def order(self):
        several = range(len(self.graphs))
        return [len(self.graphs), *(self.below(i, j)[0] for i in several for j in several)]

    def state(self):
        return [len(self.graphs), len(self.past), *(number for n, arrows in self.graphs for number in (n, len(arrows)))]


GRAPHS_TOLD = {
    "graph": 0, "drop": 1, "arrow": 1, "unarrow": 1, "turn": 1, "corein": 1, "both": 2, "beside": 2, "back": 0,
    "told": 1, "count": 2, "first": 2, "nth": 2, "is_map": 2, "kinds": 2, "below": 2, "same": 2, "core": 1, "fold": 1,
    "alike": 2, "differ": 2, "walks": 1, "rounds": 1, "tower": 1, "colours": 1, "least": 1, "order": 0, "state": 0,
}


def all_maps(one, other):
    """product gives the ways in order."""
    n, arrows = one
    m, others = other
    return [given for given in product(range(m), repeat=n)
            if all((given[u], given[v]) in others for u, v in arrows)]


def fold_of(graph):
    found = all_maps(graph, graph)
    fewest = min(len(set(given)) for given in found)
    return [given for given in found if len(set(given)) == fewest][0]


def core_of(graph):
    n, arrows = graph
    anew = {place: at for at, place in enumerate(sorted(set(fold_of(graph))))}
    return len(anew), frozenset((anew[u], anew[v]) for u, v in arrows if u in anew and v in anew)


def first_renaming(one, other):
    """permutations gives the ways in order."""
    n, arrows = one
    if n != other[0]:
        return [-33]
    for given in permutations(range(n)):
        if {(given[u], given[v]) for u, v in arrows} == other[1]:
            return [n, *given]
    return [-33]


def numbered(n, number):
    return n, {(u, v) for u in range(n) for v in range(n) if number // 2 ** (u * n + v) % 2 == 1}


def walks_between(graph, k):
    """How many walks of k arrows lead from where to where."""
    n, arrows = graph
    found = {(u, u): 1 for u in range(n)}
    for step in range(k):
        longer = {}
        for (start, end), many in found.items():
            for u, v in arrows:
                if u == end:
                    longer[start, v] = longer.get((start, v), 0) + many
        found = longer
    return found


def some_arrows(chance, n):
    pairs = [(u, v) for u in range(n) for v in range(n)]
    share = chance.choice((1, 2, 4, 8))
    return [number for pair in pairs if chance.randrange(8) < share for number in pair]


def some_graph(chance):
    n = chance.randrange(1, 6)
    arrows = some_arrows(chance, n)
    spoil = chance.randrange(12)
    if spoil == 0:
        n = chance.choice(ODD_NUMBERS)
    if spoil == 1 and arrows:
        arrows[chance.randrange(len(arrows))] = chance.choice(ODD_NUMBERS)
    if spoil == 2 and arrows:
        arrows.pop()
    if spoil == 3:
        arrows = arrows[:2] + arrows
    return ("graph", n, arrows)


def some_which(chance):
    return chance.choice((0, 0, 0, 1, 1, 1, 2, 2, 3, chance.choice((4, 5, calling.LARGEST))))


def some_call(chance):
    i = some_which(chance)
    j = some_which(chance)
    u = chance.randrange(6)
    v = chance.randrange(6)
    k = chance.choice((0, 1, 2, 3, 4, 5, 6, 7, 12, 13, calling.LARGEST))
    given = [chance.randrange(chance.choice((2, 3, 6))) for place in range(chance.randrange(7))]
    later = (("kinds", i, j), ("below", i, j), ("same", i, j), ("core", i), ("fold", i), ("alike", i, j),
             ("differ", i, j), ("walks", i, k), ("rounds", i, k), ("tower", i, k), ("colours", i), ("least", i),
             ("order",), ("state",))
    return chance.choice((
        *[chance.choice(later) for number in range(12)],
        some_graph(chance), some_graph(chance), ("drop", i), ("arrow", i, u, v), ("arrow", i, v, u),
        ("unarrow", i, u, v), ("turn", i), ("corein", i), ("both", i, j), ("beside", i, j), ("back",), ("back",),
        ("told", i), ("told", j), ("count", i, j), ("first", i, j), ("nth", i, j, chance.choice((0, 1, 2, 5, 30))),
        ("is_map", i, j, given), ("is_map", i, j, given), chance.choice((("begin",), ("told", 0))),
    ))


class AgainstPlain(unittest.TestCase):
    def compare(self, names):
        plain = Plain()
        expected = [plain.answer(*name) for name in names]
        calls = [getattr(calling, name[0])(*name[1:]) for name in names]
        self.assertEqual(calling.answered(*calls), expected, names)

    def test_lines_of_many_calls(self):
        for seed in range(120):
            chance = Random(seed)
            start = [("told", 0)] if seed % 10 == 0 else []
            self.compare(start + [("begin",)] + [some_call(chance) for number in range(80)])

    def test_all_graphs_of_two_places_against_one_another(self):
        graphs = [("graph", 2, [number for k in range(4) if bits >> k & 1 for number in divmod(k, 2)])
                  for bits in range(16)]
        for one in graphs:
            for other in graphs:
                asked = [("count", 0, 1), ("first", 0, 1), ("both", 0, 1), ("told", 2), ("beside", 0, 1), ("told", 3),
                         ("corein", 3), ("told", 3), ("corein", 2), ("told", 2), ("kinds", 0, 1), ("below", 0, 1),
                         ("same", 0, 1), ("alike", 0, 1), ("differ", 0, 1), ("order",), ("state",)]
                ways = [("is_map", 0, 1, [a, b]) for a in range(3) for b in range(3)]
                self.compare([("begin",), one, other] + asked + ways)

    def test_all_graphs_of_three_places(self):
        for bits in range(512):
            arrows = [number for k in range(9) if bits >> k & 1 for number in divmod(k, 3)]
            asked = [("core", 0), ("fold", 0), ("colours", 0), ("least", 0)]
            asked += [(name, 0, k) for name in ("walks", "rounds", "tower") for k in range(8)]
            self.compare([("begin",), ("graph", 3, arrows), ("count", 0, 0), *asked, ("corein", 0), ("told", 0),
                          ("back",), ("told", 0), ("turn", 0), ("told", 0), *asked])

    def test_graphs_of_three_places_that_are_told_apart(self):
        chance = Random(3)
        for number in range(150):
            few = chance.sample([(u, v) for u in range(3) for v in range(3) if u != v], 3)
            other = chance.sample([(u, v) for u in range(3) for v in range(3) if u != v], 3)
            graphs = [("graph", 3, [number for pair in sorted(arrows) for number in pair]) for arrows in (few, other)]
            self.compare([("begin",), *graphs, ("differ", 0, 1), ("differ", 1, 0), ("same", 0, 1), ("alike", 0, 1)])

    def test_graphs_of_four_and_five_places(self):
        for seed in range(80):
            chance = Random(seed)
            n = chance.choice((4, 5))
            graphs = [("graph", n, some_arrows(chance, n)) for number in range(2)]
            unlooped = [("unarrow", 0, place, place) for place in range(n)]
            asked = [("core", 0), ("fold", 0), ("colours", 0), ("least", 0), ("alike", 0, 1), ("same", 0, 1)]
            asked += [("tower", 0, k) for k in (1, 2, 3, 4, 5, 6)] + [("walks", 0, 12), ("rounds", 0, 11)]
            self.compare([("begin",), *graphs, *asked, *unlooped, *asked, ("order",), ("state",)])


if __name__ == "__main__":
    unittest.main()
