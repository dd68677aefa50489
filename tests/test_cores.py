"""Promise 4: core, fold, alike, differ, walks, rounds."""

import unittest

from tests.calling import (
    LARGEST, alike, arrow, both, core, corein, differ, drop, fold, graph, last, order, rounds, since_begin, told, turn,
    walks,
)

ROUND = [0, 1, 1, 2, 2, 0]
TOWER = [0, 1, 0, 2, 1, 2]
PATH = [0, 1, 1, 0, 1, 2, 2, 1, 2, 3, 3, 2]
# A round of 1, 3 and 4, and an arrow from 0 to 2 that folds into it.
ROUND_BEHIND = [0, 2, 1, 3, 3, 4, 4, 1]
FULL = [number for u in range(5) for v in range(5) for number in (u, v)]


class CoreAndFold(unittest.TestCase):
    def found(self, n, arrows):
        return since_begin(graph(n, arrows), core(0), fold(0))[1:]

    def test_places_as_they_are_numbered_in_the_graph(self):
        self.assertEqual(self.found(5, ROUND_BEHIND), [[3, 1, 3, 4], [5, 1, 1, 3, 3, 4]])
        self.assertEqual(self.found(3, [1, 2]), [[2, 1, 2], [3, 1, 1, 2]])

    def test_without_arrows(self):
        self.assertEqual(self.found(1, []), [[1, 0], [1, 0]])
        self.assertEqual(self.found(5, []), [[1, 0], [5, 0, 0, 0, 0, 0]])

    def test_an_arrow_to_itself_takes_all(self):
        self.assertEqual(self.found(1, [0, 0]), [[1, 0], [1, 0]])
        self.assertEqual(self.found(5, [0, 1, 4, 4]), [[1, 4], [5, 4, 4, 4, 4, 4]])
        self.assertEqual(self.found(4, [1, 1, 3, 3]), [[1, 1], [4, 1, 1, 1, 1]])

    def test_there_and_back(self):
        self.assertEqual(self.found(4, PATH), [[2, 0, 1], [4, 0, 1, 0, 1]])

    def test_a_core_is_hit_whole(self):
        self.assertEqual(self.found(3, ROUND), [[3, 0, 1, 2], [3, 0, 1, 2]])
        self.assertEqual(self.found(3, TOWER), [[3, 0, 1, 2], [3, 0, 1, 2]])

    def test_the_first_of_those_by_which_the_fewest_are_hit(self):
        self.assertEqual(self.found(3, [0, 1, 2, 1]), [[2, 0, 1], [3, 0, 1, 0]])
        self.assertEqual(self.found(3, [1, 0, 1, 2]), [[2, 0, 1], [3, 0, 1, 0]])

    def test_the_fold_may_move_what_it_hits(self):
        # 1, 2, 3, 4 is a round of four; 0 leads to 3. The lesser place for 0 turns the round by one.
        self.assertEqual(self.found(5, [0, 3, 1, 2, 2, 3, 3, 4, 4, 1]), [[4, 1, 2, 3, 4], [5, 1, 4, 1, 2, 3]])

    def test_ahead_of_a_core_that_is_put_in_and_behind_it(self):
        calls = [graph(5, ROUND_BEHIND), corein(0), core(0), fold(0), corein(0), told(0)]
        self.assertEqual(since_begin(*calls)[1:], [[3], [3, 0, 1, 2], [3, 0, 1, 2], [3], [3, 3] + ROUND])
        calls = [graph(5, [0, 1, 4, 4]), corein(0), core(0), fold(0)]
        self.assertEqual(since_begin(*calls)[1:], [[1], [1, 0], [1, 0]])

    def test_what_is_told_is_what_corein_puts_in(self):
        calls = [graph(5, [0, 3, 1, 2, 2, 3, 3, 4, 4, 1]), core(0), corein(0), told(0)]
        self.assertEqual(since_begin(*calls)[1:], [[4, 1, 2, 3, 4], [4], [4, 4, 0, 1, 1, 2, 2, 3, 3, 0]])

    def test_behind_a_graph_gone(self):
        self.assertEqual(since_begin(graph(1), graph(3, [1, 2]), drop(0), core(0), fold(0), core(1), fold(1))[3:],
                         [[2, 1, 2], [3, 1, 1, 2], [-2], [-2]])


class Alike(unittest.TestCase):
    def test_cores_that_are_the_same(self):
        self.assertEqual(last(graph(4, PATH), graph(2, [0, 1, 1, 0]), alike(0, 1)), [2, 0, 1])
        self.assertEqual(last(graph(3, [0, 1, 1, 2, 2, 2]), graph(1, [0, 0]), alike(0, 1)), [1, 0])
        self.assertEqual(last(graph(5), graph(2), alike(0, 1)), [1, 0])

    def test_the_map_is_of_the_cores_numbered_anew(self):
        calls = [graph(5, ROUND_BEHIND), graph(4, [0, 2, 1, 0, 2, 1]), alike(0, 1), alike(1, 0)]
        self.assertEqual(since_begin(*calls)[2:], [[3, 0, 2, 1], [3, 0, 2, 1]])

    def test_the_map_leads_from_the_first_told(self):
        # The cores are 1, 2, 3 of the first and 0, 2, 4 of the second, which is a tower by 2, 4, 0.
        calls = [graph(4, [1, 2, 1, 3, 2, 3]), graph(5, [2, 0, 2, 4, 4, 0]), alike(0, 1), alike(1, 0)]
        self.assertEqual(since_begin(*calls)[2:], [[3, 1, 2, 0], [3, 2, 0, 1]])

    def test_cores_that_are_not(self):
        self.assertEqual(since_begin(graph(2, [0, 1]), graph(3, [0, 1, 1, 2]), alike(0, 1), alike(1, 0))[2:],
                         [[-33], [-33]])
        self.assertEqual(last(graph(3, ROUND), graph(3, TOWER), alike(0, 1)), [-33])
        self.assertEqual(since_begin(graph(1), graph(1, [0, 0]), alike(0, 1), alike(1, 0))[2:], [[-33], [-33]])

    def test_a_graph_and_itself(self):
        self.assertEqual(since_begin(graph(5, ROUND_BEHIND), graph(3, TOWER), alike(0, 0), alike(1, 1))[2:],
                         [[3, 0, 1, 2], [3, 0, 1, 2]])

    def test_a_graph_and_its_core_put_in(self):
        calls = [graph(5, ROUND_BEHIND), graph(5, ROUND_BEHIND), order(), corein(1), alike(0, 1), alike(1, 0), order()]
        self.assertEqual(since_begin(*calls)[2:],
                         [[2, 1, 1, 1, 1], [3], [3, 0, 1, 2], [3, 0, 1, 2], [2, 1, 1, 1, 1]])


class Differ(unittest.TestCase):
    def told_apart(self, one, other):
        return since_begin(one, other, differ(0, 1), differ(1, 0))[2:]

    def test_one_place(self):
        self.assertEqual(self.told_apart(graph(1), graph(1, [0, 0])), [[1, 1, 0, 1], [1, 1, 1, 0]])
        self.assertEqual(self.told_apart(graph(1), graph(1)), [[-6], [-6]])

    def test_by_how_many_places(self):
        self.assertEqual(self.told_apart(graph(1), graph(2)), [[1, 0, 1, 2], [1, 0, 2, 1]])
        self.assertEqual(self.told_apart(graph(1, [0, 0]), graph(3)), [[1, 0, 1, 3], [1, 0, 3, 1]])

    def test_by_a_graph_of_two_places(self):
        self.assertEqual(self.told_apart(graph(2, [0, 1]), graph(2)), [[2, 2, 1, 0], [2, 2, 0, 1]])
        # There and back counts 2 and 4; arrows that lead one way alone don't hold it.
        self.assertEqual(self.told_apart(graph(3, [0, 1, 1, 0]), graph(3, [0, 1, 1, 2])), [[2, 6, 2, 0], [2, 6, 0, 2]])
        # An arrow to itself counts 1 at place 0, the arrow on from there 2.
        self.assertEqual(self.told_apart(graph(2, [0, 0, 0, 1]), graph(2, [0, 0, 1, 0])), [[2, 3, 2, 1], [2, 3, 1, 2]])

    def test_nothing_as_far_as_two_places_and_a_difference_at_three(self):
        self.assertEqual(self.told_apart(graph(3, ROUND), graph(3, TOWER)), [[3, 6, 3, 5], [3, 6, 5, 3]])

    def test_the_way_arrows_lead_at_three(self):
        # From 0 to 1 and to 2 counts 2 and 4.
        self.assertEqual(self.told_apart(graph(3, [0, 1, 0, 2]), graph(3, [0, 2, 1, 2])), [[3, 6, 4, 2], [3, 6, 2, 4]])

    def test_the_same_but_for_names(self):
        self.assertEqual(self.told_apart(graph(3, [0, 1]), graph(3, [2, 1])), [[-6], [-6]])
        self.assertEqual(self.told_apart(graph(3, ROUND), graph(3, [0, 2, 1, 0, 2, 1])), [[-6], [-6]])

    def test_a_graph_and_itself(self):
        self.assertEqual(since_begin(graph(3, ROUND), graph(1, [0, 0]), graph(2, [1, 0]), differ(0, 0), differ(1, 1),
                                     differ(2, 2))[3:], [[-6], [-6], [-6]])

    def test_more_than_three_places(self):
        calls = [graph(3), graph(4), graph(5), differ(0, 1), differ(1, 0), differ(1, 1), differ(2, 0), differ(0, 0)]
        self.assertEqual(since_begin(*calls)[3:], [[-75], [-75], [-75], [-75], [-6]])

    def test_a_core_put_in_is_told_apart(self):
        calls = [graph(3, [0, 1, 2, 1]), graph(3, [0, 1, 2, 1]), corein(1), differ(0, 1)]
        self.assertEqual(since_begin(*calls)[3:], [[1, 0, 3, 2]])


class Walks(unittest.TestCase):
    def counted(self, call, n, arrows, *ks):
        return [found[0] for found in since_begin(graph(n, arrows), *[call(0, k) for k in ks])[1:]]

    def test_a_walk_that_ends(self):
        self.assertEqual(self.counted(walks, 3, [0, 1, 1, 2], 0, 1, 2, 3, 12), [3, 2, 1, 0, 0])
        self.assertEqual(self.counted(rounds, 3, [0, 1, 1, 2], 0, 1, 2, 3, 12), [3, 0, 0, 0, 0])

    def test_a_round(self):
        self.assertEqual(self.counted(walks, 3, ROUND, 0, 1, 2, 3, 11, 12), [3] * 6)
        self.assertEqual(self.counted(rounds, 3, ROUND, 0, 1, 2, 3, 11, 12), [3, 0, 0, 3, 0, 3])

    def test_an_arrow_to_itself(self):
        self.assertEqual(self.counted(walks, 1, [0, 0], 0, 1, 2, 12), [1, 1, 1, 1])
        self.assertEqual(self.counted(rounds, 1, [0, 0], 0, 1, 2, 12), [1, 1, 1, 1])
        self.assertEqual(self.counted(walks, 2, [0, 0, 0, 1], 0, 1, 2, 12), [2, 2, 2, 2])
        self.assertEqual(self.counted(rounds, 2, [0, 0, 0, 1], 0, 1, 2, 12), [2, 1, 1, 1])

    def test_walks_that_grow(self):
        grow = [0, 0, 0, 1, 1, 0]
        self.assertEqual(self.counted(walks, 2, grow, 0, 1, 2, 3, 4, 12), [2, 3, 5, 8, 13, 610])
        self.assertEqual(self.counted(rounds, 2, grow, 0, 1, 2, 3, 4, 12), [2, 1, 3, 4, 7, 322])

    def test_one_place(self):
        self.assertEqual(self.counted(walks, 1, [], 0, 1, 12), [1, 0, 0])
        self.assertEqual(self.counted(rounds, 1, [], 0, 1, 12), [1, 0, 0])

    def test_as_many_as_can_be(self):
        self.assertEqual(self.counted(walks, 5, FULL, 0, 12), [5, 5 ** 13])
        self.assertEqual(self.counted(rounds, 5, FULL, 0, 12), [5, 5 ** 12])

    def test_k_above_twelve(self):
        for call in (walks, rounds):
            self.assertEqual(self.counted(call, 2, [0, 1], 12, 13, 14, LARGEST), [0, -22, -22, -22])

    def test_behind_changes(self):
        calls = [graph(2, [0, 1]), walks(0, 2), arrow(0, 1, 1), walks(0, 2), turn(0), walks(0, 2), rounds(0, 2)]
        self.assertEqual(since_begin(*calls)[1:], [[0], [2], [2], [0], [2], [1]])

    def test_rounds_of_both_at_once_are_those_of_each_times_the_other(self):
        calls = [graph(2, [0, 0, 0, 1, 1, 0]), graph(2, [0, 1, 1, 0]), both(0, 1), rounds(2, 4), walks(2, 4)]
        self.assertEqual(since_begin(*calls)[3:], [[14], [26]])


if __name__ == "__main__":
    unittest.main()
