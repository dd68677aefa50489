"""Promise 5: tower, colours, least."""

import unittest

from tests.calling import LARGEST, arrow, back, beside, colours, corein, drop, graph, last, least, since_begin, tower, turn

ROUND = [0, 1, 1, 2, 2, 0]
TOWER = [0, 1, 0, 2, 1, 2]
# By neighbours this is the round of five 0, 2, 4, 1, 3.
ODD_ROUND = [0, 2, 3, 0, 3, 1, 4, 1, 4, 2]


class Tower(unittest.TestCase):
    def found(self, n, arrows, *ks):
        return since_begin(graph(n, arrows), *[tower(0, k) for k in ks])[1:]

    def test_k_that_is_not_one_to_six(self):
        self.assertEqual(self.found(2, [0, 1], 0, 1, 6, 7, LARGEST), [[-22], [0, 0, 1], [1, 0, 1], [-22], [-22]])
        self.assertEqual(self.found(1, [], 0, 1, 6, 7, LARGEST), [[-22], [1, 0], [1, 0], [-22], [-22]])

    def test_without_arrows(self):
        self.assertEqual(self.found(3, [], 1, 2, 6), [[1, 0, 0, 0]] * 3)

    def test_a_walk_or_a_map(self):
        chain = [0, 1, 1, 2, 2, 3, 3, 4]
        self.assertEqual(self.found(5, chain, 1, 3, 4, 5, 6),
                         [[0, 0, 1], [0, 0, 1, 2, 3], [0, 0, 1, 2, 3, 4], [1, 0, 1, 2, 3, 4], [1, 0, 1, 2, 3, 4]])

    def test_a_chain_that_leads_back(self):
        chain = [1, 0, 2, 1, 3, 2, 4, 3]
        self.assertEqual(self.found(5, chain, 1, 3, 4, 5, 6),
                         [[0, 1, 0], [0, 3, 2, 1, 0], [0, 4, 3, 2, 1, 0], [1, 4, 3, 2, 1, 0], [1, 4, 3, 2, 1, 0]])

    def test_an_arrow_to_itself(self):
        self.assertEqual(self.found(1, [0, 0], 1, 6), [[0, 0, 0], [0, 0, 0, 0, 0, 0, 0, 0]])
        self.assertEqual(self.found(5, [4, 4], 2, 6), [[0, 4, 4, 4], [0, 4, 4, 4, 4, 4, 4, 4]])

    def test_a_round(self):
        self.assertEqual(self.found(3, ROUND, 1, 6), [[0, 0, 1], [0, 0, 1, 2, 0, 1, 2, 0]])

    def test_the_first_walk_is_one_that_goes_on(self):
        # The least place behind 0 is 1, but from there no arrow leads on.
        self.assertEqual(self.found(4, [0, 1, 0, 2, 2, 3], 1, 2), [[0, 0, 1], [0, 0, 2, 3]])
        # Walks from 0 are too short.
        self.assertEqual(self.found(5, [0, 1, 2, 3, 2, 4, 3, 4], 2), [[0, 2, 3, 4]])
        # From 0 it's 1 and on, though 4 leads further.
        self.assertEqual(self.found(5, [0, 1, 0, 4, 1, 2, 4, 4], 1, 2, 3),
                         [[0, 0, 1], [0, 0, 1, 2], [0, 0, 4, 4, 4]])

    def test_the_first_map(self):
        self.assertEqual(self.found(4, [0, 1, 0, 2, 2, 3], 3, 6), [[1, 0, 1, 1, 2], [1, 0, 1, 1, 2]])
        self.assertEqual(self.found(5, [4, 0], 2, 6), [[1, 1, 0, 0, 0, 0], [1, 1, 0, 0, 0, 0]])

    def test_behind_changes(self):
        calls = [graph(1), graph(2, [0, 1]), drop(0), tower(0, 2), turn(0), tower(0, 2), arrow(0, 0, 0), tower(0, 2),
                 corein(0), tower(0, 2), tower(1, 2)]
        self.assertEqual(since_begin(*calls)[3::2], [[1, 0, 1], [1, 1, 0], [0, 0, 0, 0], [0, 0, 0, 0]])
        self.assertEqual(last(*calls), [-2])


class Colours(unittest.TestCase):
    def found(self, n, arrows):
        return last(graph(n, arrows), colours(0))

    def test_without_arrows(self):
        self.assertEqual(self.found(1, []), [1, 0])
        self.assertEqual(self.found(5, []), [1, 0, 0, 0, 0, 0])

    def test_the_first_way(self):
        self.assertEqual(self.found(2, [0, 1]), [1, 0, 1])
        self.assertEqual(self.found(2, [1, 0]), [1, 0, 1])
        self.assertEqual(self.found(2, [0, 1, 1, 0]), [1, 0, 1])
        self.assertEqual(self.found(4, [0, 1, 1, 2, 2, 3, 3, 0]), [1, 0, 1, 0, 1])
        self.assertEqual(self.found(5, [1, 2, 3, 4]), [1, 0, 0, 1, 0, 1])
        self.assertEqual(self.found(3, [2, 0, 2, 1]), [1, 0, 0, 1])

    def test_an_arrow_to_itself(self):
        self.assertEqual(self.found(1, [0, 0]), [0, 2, 0, 0])
        self.assertEqual(self.found(4, [1, 1, 3, 3]), [0, 2, 1, 1])
        self.assertEqual(self.found(4, ROUND + [3, 3]), [0, 2, 3, 3])

    def test_three_steps(self):
        self.assertEqual(self.found(3, ROUND), [0, 4, 0, 1, 2, 0])
        self.assertEqual(self.found(3, [0, 2, 1, 0, 2, 1]), [0, 4, 0, 1, 2, 0])
        self.assertEqual(self.found(3, TOWER), [0, 4, 0, 1, 2, 0])

    def test_of_like_ones_the_first(self):
        self.assertEqual(self.found(5, [0, 3, 1, 2, 2, 4, 4, 1]), [0, 4, 1, 2, 4, 1])
        self.assertEqual(self.found(4, [0, 1, 0, 2, 2, 3, 3, 0]), [0, 4, 0, 2, 3, 0])
        self.assertEqual(self.found(5, [0, 3, 0, 4, 1, 0, 2, 0, 2, 1, 3, 4]), [0, 4, 0, 1, 2, 0])

    def test_five_steps(self):
        self.assertEqual(self.found(5, ODD_ROUND), [0, 6, 0, 2, 4, 1, 3, 0])

    def test_the_shortest(self):
        # The round of five is cut short from 2 to 3.
        arrows = sorted([(0, 2), (3, 0), (3, 1), (4, 1), (4, 2), (2, 3)])
        self.assertEqual(self.found(5, [number for pair in arrows for number in pair]), [0, 4, 0, 2, 3, 0])

    def test_behind_changes(self):
        calls = [graph(2, [0, 1]), graph(1, [0, 0]), beside(0, 1), colours(2), drop(0), colours(1), back(), colours(0)]
        self.assertEqual(since_begin(*calls)[3:], [[0, 2, 2, 2], [2], [0, 2, 2, 2], [3], [1, 0, 1]])


class Least(unittest.TestCase):
    def found(self, n, arrows):
        return last(graph(n, arrows), least(0))

    def test_without_arrows(self):
        self.assertEqual(self.found(1, []), [1, 0])
        self.assertEqual(self.found(5, []), [1, 0, 0, 0, 0, 0])

    def test_how_few_and_the_first_way(self):
        self.assertEqual(self.found(2, [1, 0]), [2, 0, 1])
        self.assertEqual(self.found(3, ROUND), [3, 0, 1, 2])
        self.assertEqual(self.found(4, [0, 1, 0, 2, 0, 3, 1, 2, 1, 3, 2, 3]), [4, 0, 1, 2, 3])
        self.assertEqual(self.found(5, ODD_ROUND), [3, 0, 0, 1, 1, 2])
        self.assertEqual(self.found(5, ROUND), [3, 0, 1, 2, 0, 0])

    def test_each_joined_to_each(self):
        arrows = [number for u in range(5) for v in range(5) if u < v for number in (u, v)]
        self.assertEqual(self.found(5, arrows), [5, 0, 1, 2, 3, 4])

    def test_giving_each_place_the_least_in_turn_would_take_too_many(self):
        self.assertEqual(self.found(4, [0, 2, 2, 3, 3, 1]), [2, 0, 1, 1, 0])

    def test_an_arrow_to_itself(self):
        self.assertEqual(self.found(1, [0, 0]), [-33])
        self.assertEqual(self.found(5, [4, 4]), [-33])
        self.assertEqual(self.found(3, [0, 1, 1, 1, 1, 2]), [-33])

    def test_behind_changes(self):
        calls = [graph(3, ROUND), arrow(0, 1, 1), least(0), back(), least(0), drop(0), least(0)]
        self.assertEqual(since_begin(*calls)[2:], [[-33], [1], [3, 0, 1, 2], [0], [-2]])


if __name__ == "__main__":
    unittest.main()
