"""Promises 2 and 3: told, count, first, nth, is."""

import unittest

from tests.calling import LARGEST, arrow, beside, both, count, drop, first, graph, is_map, last, nth, since_begin, told

ROUND = [0, 1, 1, 2, 2, 0]
EACH_OTHER = [0, 1, 0, 2, 1, 0, 1, 2, 2, 0, 2, 1]


class Told(unittest.TestCase):
    def test_places_arrows_and_these(self):
        self.assertEqual(last(graph(4, [0, 3, 1, 0, 1, 1]), told(0)), [4, 3, 0, 3, 1, 0, 1, 1])

    def test_one_place(self):
        self.assertEqual(since_begin(graph(1), told(0), arrow(0, 0, 0), told(0)), [[0], [1, 0], [1], [1, 1, 0, 0]])

    def test_behind_a_graph_gone(self):
        self.assertEqual(since_begin(graph(1), graph(2, [1, 0]), drop(0), told(0), told(1))[3:], [[2, 1, 1, 0], [-2]])


class Count(unittest.TestCase):
    def test_without_arrows_all_ways(self):
        self.assertEqual(since_begin(graph(5), graph(3), count(0, 1), count(1, 0), count(0, 0))[2:],
                         [[243], [125], [3125]])

    def test_one_place(self):
        self.assertEqual(since_begin(graph(1), graph(1, [0, 0]), count(0, 0), count(0, 1), count(1, 0), count(1, 1))[2:],
                         [[1], [1], [0], [1]])

    def test_an_arrow_to_itself(self):
        self.assertEqual(since_begin(graph(1, [0, 0]), graph(3, [0, 0, 0, 1, 2, 2]), count(0, 1), count(1, 0))[2:],
                         [[2], [1]])

    def test_the_way_arrows_lead(self):
        self.assertEqual(since_begin(graph(3, ROUND), graph(3, [0, 1, 0, 2, 1, 2]), graph(2, [0, 1]),
                                     count(0, 0), count(0, 1), count(1, 0), count(2, 0), count(2, 1), count(1, 2))[3:],
                         [[3], [0], [0], [3], [3], [0]])

    def test_three_colours(self):
        walk = [0, 1, 1, 2, 2, 3]
        self.assertEqual(last(graph(4, walk), graph(3, EACH_OTHER), count(0, 1)), [24])


class First(unittest.TestCase):
    def test_the_first_in_order(self):
        self.assertEqual(since_begin(graph(3, [0, 1, 1, 2]), graph(3, EACH_OTHER), first(0, 1))[2:], [[3, 0, 1, 0]])
        self.assertEqual(since_begin(graph(2, [0, 1]), graph(4, [2, 1, 2, 3, 3, 0]), first(0, 1))[2:], [[2, 2, 1]])
        self.assertEqual(since_begin(graph(3, [1, 2]), graph(2, [1, 0]), first(0, 1))[2:], [[3, 0, 1, 0]])

    def test_none(self):
        self.assertEqual(since_begin(graph(1, [0, 0]), graph(1), first(0, 1), first(1, 0))[2:], [[-33], [1, 0]])

    def test_a_graph_and_itself(self):
        self.assertEqual(since_begin(graph(3, ROUND), first(0, 0))[1:], [[3, 0, 1, 2]])
        self.assertEqual(since_begin(graph(5), first(0, 0))[1:], [[5, 0, 0, 0, 0, 0]])

    def test_below_what_is_beside(self):
        calls = [graph(2, [0, 1]), graph(1, [0, 0]), beside(0, 1), first(0, 2), first(1, 2)]
        self.assertEqual(since_begin(*calls)[3:], [[2, 0, 1], [1, 2]])

    def test_below_one_and_the_other_is_below_both(self):
        calls = [graph(2, [0, 1, 1, 0]), graph(2, [0, 0, 0, 1, 1, 0]), both(0, 1), graph(2, [0, 1]), first(3, 2)]
        self.assertEqual(since_begin(*calls)[4:], [[2, 0, 2]])


class Nth(unittest.TestCase):
    def test_all_in_order(self):
        calls = [nth(0, 1, k) for k in range(7)]
        self.assertEqual(since_begin(graph(2, [0, 1]), graph(3, EACH_OTHER), *calls)[2:],
                         [[2, 0, 1], [2, 0, 2], [2, 1, 0], [2, 1, 2], [2, 2, 0], [2, 2, 1], [-33]])

    def test_the_first_place_counts_most(self):
        calls = [nth(0, 1, k) for k in range(4)]
        self.assertEqual(since_begin(graph(2), graph(2), *calls)[2:], [[2, 0, 0], [2, 0, 1], [2, 1, 0], [2, 1, 1]])

    def test_no_more_than_k(self):
        self.assertEqual(since_begin(graph(3, ROUND), nth(0, 0, 2), nth(0, 0, 3), nth(0, 0, 4), nth(0, 0, LARGEST))[1:],
                         [[3, 2, 0, 1], [-33], [-33], [-33]])

    def test_none_at_all(self):
        self.assertEqual(since_begin(graph(1, [0, 0]), graph(1), nth(0, 1, 0), nth(1, 0, 0), nth(1, 0, 1))[2:],
                         [[-33], [1, 0], [-33]])

    def test_the_last_of_many(self):
        self.assertEqual(since_begin(graph(5), nth(0, 0, 3124), nth(0, 0, 3125), nth(0, 0, 3119))[1:],
                         [[5, 4, 4, 4, 4, 4], [-33], [5, 4, 4, 4, 3, 4]])


class IsMap(unittest.TestCase):
    def judged(self, one, other, given):
        return last(one, other, is_map(0, 1, given))

    def test_each_answer_by_itself(self):
        walk = graph(3, [0, 1, 1, 2])
        self.assertEqual(self.judged(walk, walk, [0, 1, 2]), [1, 1, 1, 1])
        self.assertEqual(self.judged(walk, walk, [2, 1, 0]), [0, 1, 1, 0])
        self.assertEqual(self.judged(walk, graph(4, [0, 1, 1, 2]), [0, 1, 2]), [1, 1, 0, 1])
        self.assertEqual(self.judged(walk, graph(3, EACH_OTHER), [0, 1, 0]), [1, 0, 0, 0])
        self.assertEqual(self.judged(walk, graph(3, EACH_OTHER), [0, 1, 2]), [1, 1, 1, 0])
        self.assertEqual(self.judged(walk, graph(1, [0, 0]), [0, 0, 0]), [1, 0, 1, 1])
        self.assertEqual(self.judged(graph(3), graph(2, [0, 1]), [0, 1, 1]), [1, 0, 1, 0])
        self.assertEqual(self.judged(walk, graph(2, [0, 1]), [0, 1, 1]), [0, 0, 1, 1])

    def test_the_way_arrows_lead(self):
        self.assertEqual(self.judged(graph(2, [0, 1]), graph(2, [1, 0]), [0, 1]), [0, 1, 1, 0])
        self.assertEqual(self.judged(graph(2, [0, 1]), graph(2, [1, 0]), [1, 0]), [1, 1, 1, 1])

    def test_an_arrow_to_itself(self):
        self.assertEqual(self.judged(graph(1, [0, 0]), graph(2, [0, 1, 1, 1]), [0]), [0, 1, 0, 0])
        self.assertEqual(self.judged(graph(1, [0, 0]), graph(2, [0, 1, 1, 1]), [1]), [1, 1, 0, 0])

    def test_a_graph_and_itself(self):
        self.assertEqual(last(graph(3, ROUND), is_map(0, 0, [1, 2, 0])), [1, 1, 1, 1])
        self.assertEqual(last(graph(3, ROUND), is_map(0, 0, [1, 0, 2])), [0, 1, 1, 0])

    def test_too_short(self):
        pair = graph(2, [0, 1])
        self.assertEqual(self.judged(pair, pair, []), [0, 1, 0, 0])
        self.assertEqual(self.judged(pair, pair, [0]), [0, 1, 0, 0])
        self.assertEqual(self.judged(graph(2), graph(1), [0]), [0, 1, 1, 1])

    def test_a_place_not_told_gets_nought_for_the_arrows_hit_alone(self):
        self.assertEqual(self.judged(graph(2, [0, 1]), graph(2, [1, 0]), [1]), [0, 1, 0, 1])
        self.assertEqual(self.judged(graph(2, [0, 1]), graph(1, [0, 0]), []), [0, 1, 0, 1])
        self.assertEqual(self.judged(graph(3, [0, 1, 1, 2]), graph(2, [0, 0, 1, 0]), [1]), [0, 1, 0, 1])

    def test_too_long(self):
        pair = graph(2, [0, 1])
        self.assertEqual(self.judged(pair, pair, [0, 1, 0]), [0, 0, 1, 1])
        self.assertEqual(self.judged(pair, graph(3, [0, 1]), [0, 1, 2]), [0, 1, 1, 1])
        self.assertEqual(self.judged(graph(1), graph(1), [0] * 12), [0, 0, 1, 1])

    def test_places_that_are_not_there(self):
        pair = graph(2, [0, 1])
        self.assertEqual(self.judged(pair, pair, [0, 2]), [0, 1, 0, 0])
        self.assertEqual(self.judged(graph(2), graph(2), [0, 2]), [0, 1, 0, 1])
        self.assertEqual(self.judged(graph(2), pair, [LARGEST, LARGEST]), [0, 0, 0, 0])
        self.assertEqual(self.judged(graph(3, [0, 1]), pair, [0, 1, LARGEST]), [0, 1, 1, 1])

    def test_no_arrows_to_hit(self):
        self.assertEqual(self.judged(graph(2), graph(3), [2, 0]), [1, 1, 0, 1])
        self.assertEqual(self.judged(graph(2, [0, 1]), graph(2), [0, 1]), [0, 1, 1, 1])


class WhatHolds(unittest.TestCase):
    def test_asking_changes_nothing(self):
        asked = [told(0), count(0, 1), first(0, 1), nth(0, 1, 1), is_map(0, 1, [0, 1])]
        found = since_begin(graph(2, [0, 1]), graph(3, ROUND), *asked, *asked)[2:]
        self.assertEqual(found[:5], found[5:])


if __name__ == "__main__":
    unittest.main()
