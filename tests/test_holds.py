"""What holds, a to d, over many graphs that are made by a fixed rule."""

import unittest
from random import Random

from tests.calling import (
    LARGEST, alike, arrow, back, below, beside, both, colours, core, corein, count, differ, drop, first, fold, graph,
    is_map, kinds, least, nth, order, rounds, same, since_begin, state, told, tower, turn, unarrow, walks,
)

PAIRS = tuple(graph(2, [number for k in range(4) if bits >> k & 1 for number in divmod(k, 2)]) for bits in range(16))
SEVERAL = (graph(1), graph(1, [0, 0]), graph(2, [0, 1]), graph(3, [0, 1, 1, 2]), graph(3, [0, 1, 1, 2, 2, 0]),
           graph(2, [0, 1, 1, 0]), graph(4, [0, 1, 0, 2, 1, 3, 2, 3]), graph(5, [4, 4]))


def some_arrows(chance, n):
    share = chance.choice((1, 2, 3, 5))
    return [(u, v) for u in range(n) for v in range(n) if chance.randrange(8) < share]


def some_graph(chance, most):
    n = chance.randrange(1, most + 1)
    return graph(n, [number for pair in some_arrows(chance, n) for number in pair])


def table(answer):
    many = answer[0]
    return [answer[1 + many * i:1 + many * (i + 1)] for i in range(many)]


class CorePutIn(unittest.TestCase):
    def test_changes_nothing_of_which_is_below_which(self):
        for seed in range(60):
            chance = Random(seed)
            stand = [some_graph(chance, 5) for number in range(4)]
            asked = [order(), below(0, 1), below(2, 3)]
            calls = list(asked)
            for i in range(4):
                calls += [corein(i), *asked]
            found = since_begin(*stand, *calls)[4:]
            with self.subTest(seed=seed):
                for i in range(4):
                    self.assertEqual(found[4 + 4 * i:7 + 4 * i], found[:3])

    def test_is_a_core_and_above_and_below_its_graph(self):
        for seed in range(60):
            made = some_graph(Random(seed), 5)
            found = since_begin(made, made, core(0), corein(1), core(1), fold(1), below(0, 1), alike(0, 1))[2:]
            with self.subTest(seed=seed):
                many = found[0][0]
                itself = [many] + list(range(many))
                self.assertEqual(found[1:5], [[many], itself, itself, [1, 1]])
                self.assertEqual(found[5], itself)


class MadeOfOneAnother(unittest.TestCase):
    def check_both(self, one, other, third):
        found = table(since_begin(one, other, both(0, 1), third, order())[-1])
        self.assertEqual(found[2][:2], [1, 1])
        self.assertEqual(found[3][2], int(found[3][0] == 1 and found[3][1] == 1))

    def check_beside(self, one, other, third):
        found = table(since_begin(one, other, beside(0, 1), third, order())[-1])
        self.assertEqual([found[0][2], found[1][2]], [1, 1])
        self.assertEqual(found[2][3], int(found[0][3] == 1 and found[1][3] == 1))

    def test_of_two_places_each(self):
        for one in PAIRS:
            for other in PAIRS:
                for third in SEVERAL:
                    self.check_both(one, other, third)
                    self.check_beside(one, other, third)

    def test_of_three_places_and_two(self):
        chance = Random(5)
        for number in range(150):
            n = [number for pair in some_arrows(chance, 3) for number in pair]
            self.check_beside(graph(3, n), chance.choice(PAIRS), some_graph(chance, 5))
            self.check_both(some_graph(chance, 5), chance.choice(SEVERAL[:2]), some_graph(chance, 5))

    def test_counts_go_with_what_is_made(self):
        chance = Random(7)
        for number in range(60):
            calls = [chance.choice(PAIRS), chance.choice(PAIRS), some_graph(chance, 4), both(0, 1)]
            found = since_begin(*calls, count(2, 0), count(2, 1), count(2, 3))[4:]
            self.assertEqual(found[0][0] * found[1][0], found[2][0])
            calls = [chance.choice(PAIRS), chance.choice(PAIRS), some_graph(chance, 4), beside(0, 1)]
            found = since_begin(*calls, count(0, 2), count(1, 2), count(3, 2))[4:]
            self.assertEqual(found[0][0] * found[1][0], found[2][0])


class OneOrTheOther(unittest.TestCase):
    def check(self, n, arrows, k, answer, many):
        if answer[0] == 1:
            given = answer[1:]
            self.assertEqual(len(given), n)
            self.assertLess(max(given), k)
            self.assertTrue(all(given[u] < given[v] for u, v in arrows))
            self.assertEqual(many, [0])
        else:
            walk = answer[1:]
            self.assertEqual((answer[0], len(walk)), (0, k + 1))
            self.assertLessEqual(set(zip(walk, walk[1:])), set(arrows))
            self.assertNotEqual(many, [0])

    def test_a_map_into_the_tower_or_a_walk(self):
        for seed in range(200):
            chance = Random(seed)
            n = chance.randrange(1, 6)
            # Half of them lead upwards alone, so that towers are reached as well.
            arrows = [(u, v) for u, v in some_arrows(chance, n) if seed % 2 == 0 or u < v]
            numbers = [number for pair in arrows for number in pair]
            for k in range(1, 7):
                found = since_begin(graph(n, numbers), tower(0, k), walks(0, k))
                with self.subTest(seed=seed, k=k):
                    self.check(n, arrows, k, found[1], found[2])

    def test_two_colours_or_an_odd_walk_by_neighbours(self):
        for seed in range(200):
            chance = Random(seed)
            n = chance.randrange(1, 6)
            arrows = some_arrows(chance, n)
            answer, few = since_begin(graph(n, [number for pair in arrows for number in pair]), colours(0), least(0))[1:]
            with self.subTest(seed=seed):
                if answer[0] == 1:
                    self.assertTrue(all(answer[1 + u] != answer[1 + v] for u, v in arrows))
                    self.assertIn(few[0], (1, 2))
                else:
                    walk = answer[2:]
                    self.assertEqual((answer[1], len(walk) % 2, walk[0]), (len(walk), 0, walk[-1]))
                    self.assertTrue(all((u, v) in arrows or (v, u) in arrows for u, v in zip(walk, walk[1:])))
                    self.assertNotIn(few[0], (1, 2))


STAND = (graph(3, [0, 1, 2, 1]), graph(2, [0, 0, 1, 0]), graph(1))
EVERY_ASKING = (
    state(), order(), told(0), told(1), told(2), told(3), count(0, 1), first(0, 1), nth(0, 1, 1), is_map(0, 1, [0, 1]),
    kinds(0, 1), below(0, 1), same(1, 1), core(0), fold(0), alike(0, 1), differ(0, 1), walks(0, 2), rounds(1, 2),
    tower(0, 2), tower(1, 6), colours(0), colours(1), least(0),
)
REFUSED = (
    graph(0), graph(2, [0, 1, 0, 1]), graph(6), drop(3), arrow(0, 0, 1), arrow(0, 3, 0), arrow(3, 0, 0), unarrow(0, 1, 0),
    turn(3), corein(3), both(0, 0), both(0, 1), beside(0, 0), beside(3, 0), told(3), first(1, 0), nth(0, 1, 99), same(0, 1),
    alike(0, 1), alike(0, 3), differ(0, 0), differ(0, 3), kinds(3, 0), below(0, 3), core(3), fold(LARGEST), walks(0, 13),
    walks(3, 0), rounds(0, 13), tower(0, 0), tower(0, 7), colours(3), least(1), least(3),
)
CHANGES = (
    graph(5, [4, 0]), drop(0), drop(1), drop(2), arrow(0, 0, 0), unarrow(1, 1, 0), turn(0), corein(0), both(1, 1),
    beside(0, 1),
)


class AsItWas(unittest.TestCase):
    def test_taken_back_all_is_as_it_was(self):
        before = since_begin(*STAND, *EVERY_ASKING)[3:]
        for change in CHANGES:
            found = since_begin(*STAND, change, state(), back(), *EVERY_ASKING)[3:]
            with self.subTest(change=change):
                self.assertGreaterEqual(found[0][0], 0)
                self.assertEqual(found[1][1], 4)
                self.assertEqual(found[2], [3])
                self.assertEqual(found[3:], before)

    def test_several_taken_back_one_behind_another(self):
        changes = (turn(0), corein(0), drop(1), both(1, 0), beside(0, 1), arrow(0, 1, 1), unarrow(0, 1, 1))
        asked = [state(), order(), told(0), told(1), told(2), told(3)]
        ahead = []
        calls = list(STAND)
        for change in changes:
            ahead.append(since_begin(*calls, *asked)[-6:])
            calls.append(change)
        for stood in reversed(ahead):
            calls.append(back())
            found = since_begin(*calls, *asked)
            self.assertEqual(found[-7], [stood[0][1]])
            self.assertEqual(found[-6:], stood)

    def test_what_is_refused_changes_nothing(self):
        before = since_begin(*STAND, *EVERY_ASKING)[3:]
        for call in REFUSED:
            found = since_begin(*STAND, call, *EVERY_ASKING)[3:]
            with self.subTest(call=call):
                self.assertEqual(len(found[0]), 1)
                self.assertLess(found[0][0], 0)
                self.assertEqual(found[1:], before)

    def test_asking_changes_nothing(self):
        before = since_begin(*STAND, *EVERY_ASKING)[3:]
        for call in EVERY_ASKING:
            with self.subTest(call=call):
                self.assertEqual(since_begin(*STAND, call, *EVERY_ASKING)[4:], before)
        self.assertEqual(since_begin(*STAND, *EVERY_ASKING, *EVERY_ASKING)[3:], before + before)


if __name__ == "__main__":
    unittest.main()
