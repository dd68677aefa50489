"""Promises 2 and 3: told, state, order; count, first, nth, is, kinds, below, same."""

import unittest

from tests.calling import (
    LARGEST, arrow, back, begin, below, beside, both, corein, count, drop, first, graph, is_map, kinds, last,
    nth, order, same, since_begin, state, told, turn, unarrow,
)

ROUND = [0, 1, 1, 2, 2, 0]
EACH_OTHER = [0, 1, 0, 2, 1, 0, 1, 2, 2, 0, 2, 1]


class Told(unittest.TestCase):
    def test_places_arrows_and_these(self):
        self.assertEqual(last(graph(4, [0, 3, 1, 0, 1, 1]), told(0)), [4, 3, 0, 3, 1, 0, 1, 1])

    def test_one_place(self):
        self.assertEqual(since_begin(graph(1), told(0), arrow(0, 0, 0), told(0)), [[0], [1, 0], [1], [1, 1, 0, 0]])

    def test_behind_a_graph_gone(self):
        self.assertEqual(since_begin(graph(1), graph(2, [1, 0]), drop(0), told(0), told(1))[3:], [[2, 1, 1, 0], [-2]])


class State(unittest.TestCase):
    def test_no_graphs(self):
        self.assertEqual(since_begin(state(), graph(1), drop(0), state(), back(), back(), state(), begin(), state()),
                         [[0, 0], [0], [0], [0, 2], [1], [0], [0, 0], [0], [0, 0]])

    def test_graphs_changes_and_of_each_places_and_arrows(self):
        calls = [graph(3, ROUND), state(), graph(1), state(), arrow(1, 0, 0), graph(5, [0, 1]), turn(2), state()]
        self.assertEqual(since_begin(*calls),
                         [[0], [1, 1, 3, 3], [1], [2, 2, 3, 3, 1, 0], [1], [2], [0], [3, 5, 3, 3, 1, 1, 5, 1]])

    def test_four(self):
        self.assertEqual(last(graph(1), graph(2), graph(3), graph(4, EACH_OTHER), graph(5), state()),
                         [4, 4, 1, 0, 2, 0, 3, 0, 4, 6])

    def test_a_graph_gone_and_those_behind_it(self):
        calls = [graph(1), graph(2, [0, 1]), graph(3, ROUND), drop(0), state(), drop(1), state(), back(), back(), state()]
        self.assertEqual(since_begin(*calls)[3:],
                         [[2], [2, 4, 2, 1, 3, 3], [1], [1, 5, 2, 1], [4], [3], [3, 3, 1, 0, 2, 1, 3, 3]])

    def test_a_core_that_is_put_in(self):
        self.assertEqual(since_begin(graph(5, [0, 1, 4, 4]), state(), corein(0), state(), back(), state())[1:],
                         [[1, 1, 5, 2], [1], [1, 2, 1, 1], [1], [1, 1, 5, 2]])

    def test_taken_back_more_than_ten_times(self):
        changes = [graph(2)] + [arrow(0, 0, 1), unarrow(0, 0, 1)] * 6
        asked = [back(), state()] * 12
        found = since_begin(*changes, state(), *asked)
        self.assertEqual(found[13], [1, 10, 2, 0])
        self.assertEqual(found[14::2], [[left] for left in range(9, -1, -1)] + [[-6], [-6]])
        self.assertEqual(found[15::2], [[1, left, 2, left % 2] for left in range(9, -1, -1)] + [[1, 0, 2, 0]] * 2)

    def test_how_many_can_be_taken_back_as_changes_come(self):
        found = since_begin(graph(1), *[turn(0), state()] * 12)
        self.assertEqual(found[2::2], [[1, many, 1, 0] for many in [2, 3, 4, 5, 6, 7, 8, 9, 10, 10, 10, 10]])

    def test_what_is_refused_is_not_counted(self):
        calls = [graph(1), graph(0), drop(1), arrow(0, 1, 1), unarrow(0, 0, 0), corein(2), both(0, 1), state()]
        self.assertEqual(last(*calls), [1, 1, 1, 0])


class Order(unittest.TestCase):
    def test_no_graphs(self):
        self.assertEqual(since_begin(order(), graph(1), drop(0), order()), [[0], [0], [0], [0]])

    def test_one(self):
        self.assertEqual(last(graph(1), order()), [1, 1])
        self.assertEqual(last(graph(5, [0, 0, 3, 4]), order()), [1, 1])

    def test_the_one_stands_ahead_of_the_other(self):
        calls = [graph(2, [0, 1]), graph(3, ROUND), graph(1, [0, 0]), order(), drop(0), order()]
        self.assertEqual(since_begin(*calls)[3:], [[3, 1, 1, 1, 0, 1, 1, 0, 0, 1], [2], [2, 1, 1, 0, 1]])

    def test_four_and_neither_below_the_other(self):
        calls = [graph(3, ROUND), graph(3, [0, 1, 0, 2, 1, 2]), graph(1), graph(4, [0, 1, 1, 2, 2, 3, 3, 3]), order()]
        self.assertEqual(last(*calls), [4, 1, 0, 0, 1, 0, 1, 0, 1, 1, 1, 1, 1, 0, 0, 0, 1])

    def test_a_graph_gone_and_those_behind_it(self):
        calls = [graph(1, [0, 0]), graph(1), graph(2, [0, 1]), drop(1), order(), drop(0), order(), back(), back(), order()]
        self.assertEqual(since_begin(*calls)[3:],
                         [[2], [2, 1, 0, 1, 1], [1], [1, 1], [4], [3], [3, 1, 0, 0, 1, 1, 1, 1, 0, 1]])

    def test_ahead_of_a_core_that_is_put_in_and_behind_it(self):
        calls = [graph(5, [0, 2, 1, 3, 3, 4, 4, 1]), graph(3, ROUND), graph(2, [0, 1, 1, 0])]
        found = since_begin(*calls, order(), corein(0), order(), back(), order())
        self.assertEqual(found[3:], [[3, 1, 1, 0, 1, 1, 0, 0, 0, 1], [3], [3, 1, 1, 0, 1, 1, 0, 0, 0, 1], [3],
                                     [3, 1, 1, 0, 1, 1, 0, 0, 0, 1]])

    def test_behind_both_of_two_with_three_places(self):
        calls = [graph(3, ROUND), graph(3), order(), both(0, 1), order(), state()]
        self.assertEqual(since_begin(*calls)[2:], [[2, 1, 0, 1, 1], [-75], [2, 1, 0, 1, 1], [2, 2, 3, 3, 3, 0]])


class Count(unittest.TestCase):
    def test_without_arrows_all_ways(self):
        self.assertEqual(since_begin(graph(5), graph(3), count(0, 1), count(1, 0), count(0, 0))[2:],
                         [[243], [125], [3125]])

    def test_one_place(self):
        self.assertEqual(since_begin(graph(1), graph(1, [0, 0]), count(0, 0), count(0, 1), count(1, 0), count(1, 1))[2:],
                         [[1], [1], [0], [1]])

    def test_an_arrow_to_itself(self):
        self.assertEqual(since_begin(graph(1, [0, 0]), graph(3, [0, 0, 0, 1, 2, 2]), count(0, 1), count(1, 0))[2:],
                         [[2], [1]])

    def test_the_way_arrows_lead(self):
        self.assertEqual(since_begin(graph(3, ROUND), graph(3, [0, 1, 0, 2, 1, 2]), graph(2, [0, 1]),
                                     count(0, 0), count(0, 1), count(1, 0), count(2, 0), count(2, 1), count(1, 2))[3:],
                         [[3], [0], [0], [3], [3], [0]])

    def test_three_colours(self):
        walk = [0, 1, 1, 2, 2, 3]
        self.assertEqual(last(graph(4, walk), graph(3, EACH_OTHER), count(0, 1)), [24])


class First(unittest.TestCase):
    def test_the_first_in_order(self):
        self.assertEqual(since_begin(graph(3, [0, 1, 1, 2]), graph(3, EACH_OTHER), first(0, 1))[2:], [[3, 0, 1, 0]])
        self.assertEqual(since_begin(graph(2, [0, 1]), graph(4, [2, 1, 2, 3, 3, 0]), first(0, 1))[2:], [[2, 2, 1]])
        self.assertEqual(since_begin(graph(3, [1, 2]), graph(2, [1, 0]), first(0, 1))[2:], [[3, 0, 1, 0]])

    def test_none(self):
        self.assertEqual(since_begin(graph(1, [0, 0]), graph(1), first(0, 1), first(1, 0))[2:], [[-33], [1, 0]])

    def test_a_graph_and_itself(self):
        self.assertEqual(since_begin(graph(3, ROUND), first(0, 0))[1:], [[3, 0, 1, 2]])
        self.assertEqual(since_begin(graph(5), first(0, 0))[1:], [[5, 0, 0, 0, 0, 0]])

    def test_below_what_is_beside(self):
        calls = [graph(2, [0, 1]), graph(1, [0, 0]), beside(0, 1), first(0, 2), first(1, 2)]
        self.assertEqual(since_begin(*calls)[3:], [[2, 0, 1], [1, 2]])

    def test_below_one_and_the_other_is_below_both(self):
        calls = [graph(2, [0, 1, 1, 0]), graph(2, [0, 0, 0, 1, 1, 0]), both(0, 1), graph(2, [0, 1]), first(3, 2)]
        self.assertEqual(since_begin(*calls)[4:], [[2, 0, 2]])


class Nth(unittest.TestCase):
    def test_all_in_order(self):
        calls = [nth(0, 1, k) for k in range(7)]
        self.assertEqual(since_begin(graph(2, [0, 1]), graph(3, EACH_OTHER), *calls)[2:],
                         [[2, 0, 1], [2, 0, 2], [2, 1, 0], [2, 1, 2], [2, 2, 0], [2, 2, 1], [-33]])

    def test_the_first_place_counts_most(self):
        calls = [nth(0, 1, k) for k in range(4)]
        self.assertEqual(since_begin(graph(2), graph(2), *calls)[2:], [[2, 0, 0], [2, 0, 1], [2, 1, 0], [2, 1, 1]])

    def test_no_more_than_k(self):
        self.assertEqual(since_begin(graph(3, ROUND), nth(0, 0, 2), nth(0, 0, 3), nth(0, 0, 4), nth(0, 0, LARGEST))[1:],
                         [[3, 2, 0, 1], [-33], [-33], [-33]])

    def test_none_at_all(self):
        self.assertEqual(since_begin(graph(1, [0, 0]), graph(1), nth(0, 1, 0), nth(1, 0, 0), nth(1, 0, 1))[2:],
                         [[-33], [1, 0], [-33]])

    def test_the_last_of_many(self):
        self.assertEqual(since_begin(graph(5), nth(0, 0, 3124), nth(0, 0, 3125), nth(0, 0, 3119))[1:],
                         [[5, 4, 4, 4, 4, 4], [-33], [5, 4, 4, 4, 3, 4]])


class IsMap(unittest.TestCase):
    def judged(self, one, other, given):
        return last(one, other, is_map(0, 1, given))

    def test_each_answer_by_itself(self):
        walk = graph(3, [0, 1, 1, 2])
        self.assertEqual(self.judged(walk, walk, [0, 1, 2]), [1, 1, 1, 1])
        self.assertEqual(self.judged(walk, walk, [2, 1, 0]), [0, 1, 1, 0])
        self.assertEqual(self.judged(walk, graph(4, [0, 1, 1, 2]), [0, 1, 2]), [1, 1, 0, 1])
        self.assertEqual(self.judged(walk, graph(3, EACH_OTHER), [0, 1, 0]), [1, 0, 0, 0])
        self.assertEqual(self.judged(walk, graph(3, EACH_OTHER), [0, 1, 2]), [1, 1, 1, 0])
        self.assertEqual(self.judged(walk, graph(1, [0, 0]), [0, 0, 0]), [1, 0, 1, 1])
        self.assertEqual(self.judged(graph(3), graph(2, [0, 1]), [0, 1, 1]), [1, 0, 1, 0])
        self.assertEqual(self.judged(walk, graph(2, [0, 1]), [0, 1, 1]), [0, 0, 1, 1])

    def test_the_way_arrows_lead(self):
        self.assertEqual(self.judged(graph(2, [0, 1]), graph(2, [1, 0]), [0, 1]), [0, 1, 1, 0])
        self.assertEqual(self.judged(graph(2, [0, 1]), graph(2, [1, 0]), [1, 0]), [1, 1, 1, 1])

    def test_an_arrow_to_itself(self):
        self.assertEqual(self.judged(graph(1, [0, 0]), graph(2, [0, 1, 1, 1]), [0]), [0, 1, 0, 0])
        self.assertEqual(self.judged(graph(1, [0, 0]), graph(2, [0, 1, 1, 1]), [1]), [1, 1, 0, 0])

    def test_a_graph_and_itself(self):
        self.assertEqual(last(graph(3, ROUND), is_map(0, 0, [1, 2, 0])), [1, 1, 1, 1])
        self.assertEqual(last(graph(3, ROUND), is_map(0, 0, [1, 0, 2])), [0, 1, 1, 0])

    def test_too_short(self):
        pair = graph(2, [0, 1])
        self.assertEqual(self.judged(pair, pair, []), [0, 1, 0, 0])
        self.assertEqual(self.judged(pair, pair, [0]), [0, 1, 0, 0])
        self.assertEqual(self.judged(graph(2), graph(1), [0]), [0, 1, 1, 1])

    def test_a_place_not_told_gets_nought_for_the_arrows_hit_alone(self):
        self.assertEqual(self.judged(graph(2, [0, 1]), graph(2, [1, 0]), [1]), [0, 1, 0, 1])
        self.assertEqual(self.judged(graph(2, [0, 1]), graph(1, [0, 0]), []), [0, 1, 0, 1])
        self.assertEqual(self.judged(graph(3, [0, 1, 1, 2]), graph(2, [0, 0, 1, 0]), [1]), [0, 1, 0, 1])

    def test_too_long(self):
        pair = graph(2, [0, 1])
        self.assertEqual(self.judged(pair, pair, [0, 1, 0]), [0, 0, 1, 1])
        self.assertEqual(self.judged(pair, graph(3, [0, 1]), [0, 1, 2]), [0, 1, 1, 1])
        self.assertEqual(self.judged(graph(1), graph(1), [0] * 12), [0, 0, 1, 1])

    def test_places_that_are_not_there(self):
        pair = graph(2, [0, 1])
        self.assertEqual(self.judged(pair, pair, [0, 2]), [0, 1, 0, 0])
        self.assertEqual(self.judged(graph(2), graph(2), [0, 2]), [0, 1, 0, 1])
        self.assertEqual(self.judged(graph(2), pair, [LARGEST, LARGEST]), [0, 0, 0, 0])
        self.assertEqual(self.judged(graph(3, [0, 1]), pair, [0, 1, LARGEST]), [0, 1, 1, 1])

    def test_no_arrows_to_hit(self):
        self.assertEqual(self.judged(graph(2), graph(3), [2, 0]), [1, 1, 0, 1])
        self.assertEqual(self.judged(graph(2, [0, 1]), graph(2), [0, 1]), [0, 1, 1, 1])


class Kinds(unittest.TestCase):
    def counted(self, one, other):
        return last(one, other, kinds(0, 1))

    def test_each_number_by_itself(self):
        walk = graph(3, [0, 1, 1, 2])
        self.assertEqual(self.counted(graph(2, [0, 1]), graph(3, EACH_OTHER)), [6, 6, 0, 0])
        self.assertEqual(self.counted(walk, graph(3, EACH_OTHER)), [12, 6, 6, 0])
        self.assertEqual(self.counted(walk, graph(1, [0, 0])), [1, 0, 1, 1])
        self.assertEqual(self.counted(graph(4, [0, 1, 2, 3]), graph(2, [0, 1])), [1, 0, 1, 1])
        self.assertEqual(self.counted(graph(3), graph(2)), [8, 0, 6, 6])
        self.assertEqual(self.counted(graph(3), graph(2, [0, 1])), [8, 0, 6, 0])
        self.assertEqual(self.counted(graph(2), graph(2, [0, 1])), [4, 2, 2, 0])

    def test_each_arrow_hit_but_not_each_place(self):
        self.assertEqual(self.counted(graph(2), graph(3)), [9, 6, 0, 0])
        self.assertEqual(self.counted(graph(2, [0, 1]), graph(3, [0, 1])), [1, 1, 0, 0])

    def test_a_graph_and_itself(self):
        self.assertEqual(since_begin(graph(3, ROUND), graph(5), kinds(0, 0), kinds(1, 1))[2:],
                         [[3, 3, 3, 3], [3125, 120, 120, 120]])

    def test_one_place(self):
        self.assertEqual(since_begin(graph(1), graph(1, [0, 0]), kinds(0, 0), kinds(0, 1), kinds(1, 0), kinds(1, 1))[2:],
                         [[1, 1, 1, 1], [1, 1, 1, 0], [0, 0, 0, 0], [1, 1, 1, 1]])

    def test_none(self):
        self.assertEqual(self.counted(graph(3, ROUND), graph(3, [0, 1, 0, 2, 1, 2])), [0, 0, 0, 0])


class Below(unittest.TestCase):
    def test_one_and_not_the_other(self):
        self.assertEqual(since_begin(graph(2, [0, 1]), graph(3, ROUND), below(0, 1), below(1, 0))[2:], [[1, 0], [0, 1]])

    def test_neither_and_both(self):
        self.assertEqual(last(graph(3, ROUND), graph(3, [0, 1, 0, 2, 1, 2]), below(0, 1)), [0, 0])
        self.assertEqual(last(graph(2, [0, 1, 1, 0]), graph(3, [0, 1, 1, 0, 1, 2, 2, 1]), below(0, 1)), [1, 1])

    def test_an_arrow_to_itself(self):
        self.assertEqual(since_begin(graph(1, [0, 0]), graph(1), graph(3, ROUND), below(0, 1), below(1, 0), below(2, 0))[3:],
                         [[0, 1], [1, 0], [1, 0]])

    def test_a_graph_and_itself(self):
        self.assertEqual(since_begin(graph(3, ROUND), graph(1), graph(4, [0, 1, 3, 3]), below(0, 0), below(1, 1),
                                     below(2, 2))[3:], [[1, 1], [1, 1], [1, 1]])

    def test_one_that_is_found_late(self):
        # The arrow lies between the last places, and the only one to get it leads back.
        self.assertEqual(last(graph(5, [3, 4]), graph(5, [4, 3]), below(0, 1)), [1, 1])
        self.assertEqual(last(graph(5, [3, 4]), graph(5), below(0, 1)), [0, 1])


class Same(unittest.TestCase):
    def test_the_first_map_by_which_they_are(self):
        self.assertEqual(last(graph(3, ROUND), graph(3, [0, 2, 1, 0, 2, 1]), same(0, 1)), [3, 0, 2, 1])
        self.assertEqual(last(graph(4, [0, 1, 2, 3]), graph(4, [1, 0, 3, 2]), same(0, 1)), [4, 1, 0, 3, 2])

    def test_the_map_leads_from_the_first_told(self):
        calls = [graph(3, [0, 1, 0, 2, 1, 2]), graph(3, [1, 0, 1, 2, 2, 0]), same(0, 1), same(1, 0)]
        self.assertEqual(since_begin(*calls)[2:], [[3, 1, 2, 0], [3, 2, 0, 1]])

    def test_a_graph_and_itself(self):
        self.assertEqual(since_begin(graph(3, ROUND), graph(5), same(0, 0), same(1, 1))[2:],
                         [[3, 0, 1, 2], [5, 0, 1, 2, 3, 4]])

    def test_one_place(self):
        self.assertEqual(since_begin(graph(1), graph(1, [0, 0]), graph(1), same(0, 2), same(1, 1), same(0, 1),
                                     same(1, 0))[3:], [[1, 0], [1, 0], [-33], [-33]])

    def test_as_many_places_and_arrows_but_not_the_same(self):
        self.assertEqual(last(graph(3, [0, 1, 1, 2]), graph(3, [0, 1, 0, 2]), same(0, 1)), [-33])
        self.assertEqual(last(graph(2, [0, 0, 0, 1]), graph(2, [0, 0, 1, 0]), same(0, 1)), [-33])

    def test_a_place_that_is_given_twice_or_not_at_all(self):
        self.assertEqual(since_begin(graph(3), graph(2), same(0, 1), same(1, 0))[2:], [[-33], [-33]])

    def test_an_arrow_that_is_not_hit(self):
        self.assertEqual(since_begin(graph(2), graph(2, [0, 1]), same(0, 1), same(1, 0))[2:], [[-33], [-33]])

    def test_below_one_another_is_not_enough(self):
        calls = [graph(2, [0, 1, 1, 0]), graph(3, [0, 1, 1, 0, 1, 2, 2, 1]), below(0, 1), same(0, 1), corein(1), same(0, 1)]
        self.assertEqual(since_begin(*calls)[2:], [[1, 1], [-33], [2], [2, 0, 1]])

    def test_turned_about(self):
        self.assertEqual(since_begin(graph(3, [0, 1, 1, 2]), graph(3, [0, 1, 1, 2]), turn(1), same(0, 1))[3:],
                         [[3, 2, 1, 0]])


if __name__ == "__main__":
    unittest.main()
