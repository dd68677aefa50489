"""Promise 1: begin, graph, drop, arrow, unarrow, turn, corein, both, beside, back."""

import unittest

from tests.calling import (
    LARGEST, answered, arrow, back, begin, beside, both, corein, count, drop, first, graph, is_map, last,
    nth, since_begin, told, turn, unarrow,
)


class Begin(unittest.TestCase):
    def test_no_graphs_and_nothing_to_take_back(self):
        self.assertEqual(answered(begin(), told(0), back()), [[0], [-2], [-6]])

    def test_a_second_begin_takes_all_away(self):
        self.assertEqual(answered(begin(), graph(1), turn(0), begin(), told(0), back(), graph(2), told(0), back()),
                         [[0], [0], [0], [0], [-2], [-6], [0], [2, 0], [0]])


class Graph(unittest.TestCase):
    def test_numbered_one_behind_another(self):
        self.assertEqual(since_begin(graph(1), graph(2, [0, 1]), graph(5, [4, 4]), graph(3), told(2)),
                         [[0], [1], [2], [3], [5, 1, 4, 4]])

    def test_one_place(self):
        self.assertEqual(since_begin(graph(1), graph(1, [0, 0]), told(0), told(1)), [[0], [1], [1, 0], [1, 1, 0, 0]])

    def test_all_arrows_of_five_places(self):
        arrows = [number for u in range(5) for v in range(5) for number in (u, v)]
        self.assertEqual(since_begin(graph(5, arrows), told(0)), [[0], [5, 25] + arrows])

    def test_how_many_places(self):
        for n in (0, 6, 7, LARGEST):
            with self.subTest(n=n):
                self.assertEqual(since_begin(graph(n), graph(n, [0, 0]), told(0), back()), [[-22], [-22], [-2], [-6]])
        for n in (1, 2, 3, 4, 5):
            with self.subTest(n=n):
                self.assertEqual(since_begin(graph(n), told(0)), [[0], [n, 0]])

    def test_a_list_that_is_none(self):
        wrong = {
            "odd": ([0], [0, 1, 1], [0, 0, 0, 1, 1]),
            "not rising by the first": ([1, 0, 0, 1], [0, 0, 2, 0, 1, 2]),
            "not rising by the second": ([0, 1, 0, 0], [0, 0, 1, 2, 1, 1]),
            "an arrow twice": ([0, 1, 0, 1], [0, 0, 1, 1, 1, 1], [0, 1, 1, 2, 0, 1]),
            "no such place": ([0, 3], [3, 0], [0, 0, 1, 3], [0, LARGEST], [LARGEST, 0], [LARGEST, LARGEST]),
            "much of all": ([LARGEST] * 60, [LARGEST] * 59, [0] * 60),
        }
        for why, lists in wrong.items():
            for arrows in lists:
                with self.subTest(why=why, arrows=arrows):
                    self.assertEqual(since_begin(graph(3, arrows), told(0), back()), [[-22], [-2], [-6]])

    def test_a_place_just_there(self):
        self.assertEqual(since_begin(graph(3, [2, 2]), graph(2, [2, 2])), [[0], [-22]])

    def test_a_fifth(self):
        four = [graph(1), graph(2), graph(3), graph(4)]
        self.assertEqual(since_begin(*four, graph(5), told(4), back())[4:], [[-28], [-2], [3]])

    def test_what_is_none_is_told_ahead_of_a_fifth(self):
        self.assertEqual(since_begin(*[graph(1)] * 4, graph(0), graph(6), graph(1, [0]), graph(1))[4:],
                         [[-22], [-22], [-22], [-28]])


class Drop(unittest.TestCase):
    def test_those_behind_are_numbered_one_less(self):
        three = [graph(1), graph(2), graph(3)]
        self.assertEqual(since_begin(*three, drop(1), told(0), told(1), told(2))[3:], [[2], [1, 0], [3, 0], [-2]])
        self.assertEqual(since_begin(*three, drop(0), told(0), told(1), told(2))[3:], [[2], [2, 0], [3, 0], [-2]])
        self.assertEqual(since_begin(*three, drop(2), told(0), told(1), told(2))[3:], [[2], [1, 0], [2, 0], [-2]])

    def test_to_the_last_one(self):
        self.assertEqual(since_begin(graph(1), graph(1), drop(0), drop(0), drop(0), told(0)),
                         [[0], [1], [1], [0], [-2], [-2]])

    def test_makes_room(self):
        self.assertEqual(since_begin(*[graph(1)] * 4, graph(2), drop(0), graph(2), told(3))[4:],
                         [[-28], [3], [3], [2, 0]])


class Arrow(unittest.TestCase):
    def test_is_put_in_where_it_belongs(self):
        self.assertEqual(since_begin(graph(3, [0, 1, 2, 0]), arrow(0, 1, 1), arrow(0, 0, 0), told(0)),
                         [[0], [3], [4], [3, 4, 0, 0, 0, 1, 1, 1, 2, 0]])

    def test_leads_one_way(self):
        self.assertEqual(since_begin(graph(2), arrow(0, 1, 0), told(0), arrow(0, 0, 1)), [[0], [1], [2, 1, 1, 0], [2]])

    def test_told_twice(self):
        self.assertEqual(since_begin(graph(2, [0, 1]), arrow(0, 0, 1), arrow(0, 1, 1), arrow(0, 1, 1), told(0), back()),
                         [[0], [-17], [2], [-17], [2, 2, 0, 1, 1, 1], [1]])

    def test_no_such_place(self):
        for u, v in ((2, 0), (0, 2), (2, 2), (LARGEST, 0), (0, LARGEST)):
            with self.subTest(u=u, v=v):
                self.assertEqual(since_begin(graph(2), arrow(0, u, v), told(0), back()), [[0], [-2], [2, 0], [0]])

    def test_changes_the_one_told_alone(self):
        self.assertEqual(since_begin(graph(2), graph(2), arrow(1, 0, 1), told(0), told(1))[2:],
                         [[1], [2, 0], [2, 1, 0, 1]])


class Unarrow(unittest.TestCase):
    def test_is_gone(self):
        self.assertEqual(since_begin(graph(2, [0, 0, 0, 1, 1, 0]), unarrow(0, 0, 1), told(0), unarrow(0, 0, 0)),
                         [[0], [2], [2, 2, 0, 0, 1, 0], [1]])

    def test_no_such_arrow(self):
        for u, v in ((1, 0), (0, 0), (2, 0), (0, 2), (LARGEST, LARGEST)):
            with self.subTest(u=u, v=v):
                self.assertEqual(since_begin(graph(2, [0, 1]), unarrow(0, u, v), told(0), back()),
                                 [[0], [-2], [2, 1, 0, 1], [0]])

    def test_gone_once(self):
        self.assertEqual(since_begin(graph(1, [0, 0]), unarrow(0, 0, 0), unarrow(0, 0, 0), arrow(0, 0, 0)),
                         [[0], [0], [-2], [1]])


class Turn(unittest.TestCase):
    def test_each_arrow_leads_the_other_way_and_they_rise(self):
        self.assertEqual(since_begin(graph(3, [0, 1, 0, 2, 1, 1, 1, 2]), turn(0), told(0), turn(0), told(0))[1:],
                         [[0], [3, 4, 1, 0, 1, 1, 2, 0, 2, 1], [0], [3, 4, 0, 1, 0, 2, 1, 1, 1, 2]])

    def test_is_a_change_though_nothing_turns(self):
        self.assertEqual(since_begin(graph(1, [0, 0]), turn(0), turn(0), back(), back(), told(0))[1:],
                         [[0], [0], [2], [1], [1, 1, 0, 0]])


class Corein(unittest.TestCase):
    def told_core(self, n, arrows):
        return since_begin(graph(n, arrows), corein(0), told(0))[1:]

    def test_without_arrows_one_place(self):
        for n in (1, 2, 5):
            with self.subTest(n=n):
                self.assertEqual(self.told_core(n, []), [[1], [1, 0]])

    def test_an_arrow_to_itself_takes_all(self):
        self.assertEqual(self.told_core(1, [0, 0]), [[1], [1, 1, 0, 0]])
        self.assertEqual(self.told_core(3, [0, 1, 1, 2, 2, 2]), [[1], [1, 1, 0, 0]])

    def test_there_and_back_folds_to_one_step(self):
        path = [0, 1, 1, 0, 1, 2, 2, 1, 2, 3, 3, 2]
        self.assertEqual(self.told_core(4, path), [[2], [2, 2, 0, 1, 1, 0]])

    def test_a_core_stays_as_it_is(self):
        five_round = [0, 1, 0, 4, 1, 0, 1, 2, 2, 1, 2, 3, 3, 2, 3, 4, 4, 0, 4, 3]
        self.assertEqual(self.told_core(5, five_round), [[5], [5, 10] + five_round])
        self.assertEqual(self.told_core(3, [0, 1, 0, 2, 1, 2]), [[3], [3, 3, 0, 1, 0, 2, 1, 2]])

    def test_places_are_numbered_anew(self):
        # The round of three is 1, 3, 4; the place 0 and the arrow 0 to 2 fold into it.
        self.assertEqual(self.told_core(5, [0, 2, 1, 3, 3, 4, 4, 1]), [[3], [3, 3, 0, 1, 1, 2, 2, 0]])
        # The only arrow to itself is at the last place.
        self.assertEqual(self.told_core(5, [0, 1, 4, 4]), [[1], [1, 1, 0, 0]])

    def test_the_first_of_the_folds_by_which_the_fewest_are_hit(self):
        # From 0 to 2 there's a way by 1 and a way by 4; the first fold takes 4 to 1.
        self.assertEqual(self.told_core(5, [0, 1, 0, 4, 1, 2, 3, 0, 4, 2]),
                         [[4], [4, 3, 0, 1, 1, 2, 3, 0]])
        # The first fold keeps 0 and 1; the last one would keep 1 and 2, and the arrow would lead back.
        self.assertEqual(self.told_core(3, [0, 1, 2, 1]), [[2], [2, 1, 0, 1]])
        self.assertEqual(self.told_core(3, [1, 0, 1, 2]), [[2], [2, 1, 1, 0]])

    def test_the_arrows_between_what_is_hit_are_all_kept(self):
        self.assertEqual(self.told_core(4, [0, 1, 0, 2, 1, 0, 1, 2, 2, 0, 2, 1, 3, 0]),
                         [[3], [3, 6, 0, 1, 0, 2, 1, 0, 1, 2, 2, 0, 2, 1]])

    def test_is_a_change_that_can_be_taken_back(self):
        self.assertEqual(since_begin(graph(3, [1, 2]), corein(0), corein(0), told(0), back(), back(), told(0))[1:],
                         [[2], [2], [2, 1, 0, 1], [2], [1], [3, 1, 1, 2]])

    def test_the_others_stand_where_they_stood(self):
        self.assertEqual(since_begin(graph(2), graph(3), graph(4), corein(1), told(0), told(1), told(2))[3:],
                         [[1], [2, 0], [1, 0], [4, 0]])


class Both(unittest.TestCase):
    def test_places_and_arrows(self):
        self.assertEqual(since_begin(graph(2, [0, 1, 1, 1]), graph(2, [1, 0]), both(0, 1), told(2))[2:],
                         [[2], [4, 2, 1, 2, 3, 2]])
        self.assertEqual(since_begin(graph(2, [0, 1, 1, 1]), graph(2, [1, 0]), both(1, 0), told(2))[2:],
                         [[2], [4, 2, 2, 1, 3, 1]])

    def test_with_one_place(self):
        two = [0, 0, 0, 1, 1, 0]
        self.assertEqual(since_begin(graph(2, two), graph(1, [0, 0]), both(0, 1), told(2))[2:], [[2], [2, 3] + two])
        self.assertEqual(since_begin(graph(5, [0, 4, 3, 2]), graph(1), both(0, 1), both(1, 0), told(2), told(3))[2:],
                         [[2], [3], [5, 0], [5, 0]])

    def test_a_graph_and_itself(self):
        self.assertEqual(since_begin(graph(2, [0, 1]), both(0, 0), told(1)), [[0], [1], [4, 1, 0, 3]])

    def test_more_than_five_places(self):
        self.assertEqual(since_begin(graph(3), both(0, 0), graph(2), both(0, 1), both(1, 0), both(1, 1), told(2))[1:],
                         [[-75], [1], [-75], [-75], [2], [4, 0]])

    def test_refused_it_changes_nothing(self):
        self.assertEqual(since_begin(graph(3), both(0, 0), told(1), back(), back()), [[0], [-75], [-2], [0], [-6]])

    def test_a_fifth(self):
        four = [graph(1), graph(3), graph(1), graph(5)]
        self.assertEqual(since_begin(*four, both(0, 0), both(0, 3), both(1, 1), told(4), back())[4:],
                         [[-28], [-28], [-75], [-2], [3]])

    def test_below_both(self):
        calls = [graph(2, [0, 1, 1, 0]), graph(2, [0, 1, 1, 1]), both(0, 1), first(2, 0), first(2, 1)]
        self.assertEqual(since_begin(*calls)[3:], [[4, 0, 0, 1, 1], [4, 0, 1, 0, 1]])


class Beside(unittest.TestCase):
    def test_the_second_stands_behind_the_first(self):
        calls = [graph(2, [0, 1, 1, 1]), graph(3, [0, 2, 2, 1])]
        self.assertEqual(since_begin(*calls, beside(0, 1), told(2))[2:], [[2], [5, 4, 0, 1, 1, 1, 2, 4, 4, 3]])
        self.assertEqual(since_begin(*calls, beside(1, 0), told(2))[2:], [[2], [5, 4, 0, 2, 2, 1, 3, 4, 4, 4]])

    def test_a_graph_and_itself(self):
        self.assertEqual(since_begin(graph(1, [0, 0]), beside(0, 0), told(1)), [[0], [1], [2, 2, 0, 0, 1, 1]])

    def test_more_than_five_places(self):
        self.assertEqual(since_begin(graph(3), graph(2), beside(0, 0), beside(0, 1), beside(1, 2), told(2), back())[2:],
                         [[-75], [2], [-75], [5, 0], [2]])

    def test_a_fifth(self):
        four = [graph(1), graph(3), graph(2), graph(5)]
        self.assertEqual(since_begin(*four, beside(0, 1), beside(1, 2), beside(1, 1), beside(0, 3), told(4))[4:],
                         [[-28], [-28], [-75], [-75], [-2]])


class Back(unittest.TestCase):
    def test_no_change_to_take_back(self):
        self.assertEqual(since_begin(back(), graph(1), back(), back(), told(0)), [[-6], [0], [0], [-6], [-2]])

    def test_each_change_is_taken_back(self):
        stand = [graph(2, [0, 1]), graph(2, [0, 0, 1, 0])]
        before = [[2, 1, 0, 1], [2, 2, 0, 0, 1, 0], [-2]]
        changes = (graph(1), drop(0), drop(1), arrow(0, 1, 1), unarrow(1, 1, 0), turn(0), corein(1), both(0, 1),
                   beside(1, 0))
        for change in changes:
            with self.subTest(change=change):
                found = since_begin(*stand, change, back(), told(0), told(1), told(2), back(), back(), back())
                self.assertGreaterEqual(found[2][0], 0)
                self.assertEqual(found[3:], [[2]] + before + [[1], [0], [-6]])

    def test_what_is_refused_and_asking_are_no_changes(self):
        stand = [graph(3, [0, 1])]
        no_changes = (graph(0), drop(1), arrow(0, 0, 1), arrow(0, 3, 0), unarrow(0, 1, 0), turn(1), corein(1),
                      both(0, 0), beside(0, 0), told(0), count(0, 0), first(0, 0), nth(0, 0, 0), nth(0, 0, 99),
                      is_map(0, 0, [0, 1, 2]), is_map(0, 0, [9]))
        for call in no_changes:
            with self.subTest(call=call):
                self.assertEqual(since_begin(*stand, call, told(0), back(), back())[2:], [[3, 1, 0, 1], [0], [-6]])

    def test_back_is_no_change(self):
        self.assertEqual(since_begin(graph(1), graph(2), back(), back(), back(), told(0)),
                         [[0], [1], [1], [0], [-6], [-2]])

    def test_ten_can_be_taken_back_and_no_more(self):
        changes = [graph(2)] + [turn(0)] * 9
        self.assertEqual(since_begin(*changes, *[back()] * 11, told(0))[10:],
                         [[left] for left in range(9, -1, -1)] + [[-6], [-2]])

    def test_taken_back_more_than_ten_times(self):
        arrows = [arrow(0, u, v) for u in range(4) for v in range(3)]
        found = since_begin(graph(4), *arrows, *[back()] * 12, told(0))
        self.assertEqual(found[1:13], [[many] for many in range(1, 13)])
        self.assertEqual(found[13:], [[left] for left in range(9, -1, -1)] + [[-6], [-6], [4, 2, 0, 0, 0, 1]])

    def test_room_that_is_made_is_filled_anew(self):
        twelve = [graph(1)] + [turn(0)] * 11
        self.assertEqual(since_begin(*twelve, back(), back(), turn(0), back(), *[turn(0)] * 5, back())[12:],
                         [[9], [8], [0], [8], [0], [0], [0], [0], [0], [9]])

    def test_a_change_behind_a_back_goes_on_from_there(self):
        calls = [graph(2), arrow(0, 0, 0), back(), arrow(0, 1, 1), told(0), back(), told(0)]
        self.assertEqual(since_begin(*calls), [[0], [1], [1], [1], [2, 1, 1, 1], [1], [2, 0]])

    def test_a_drop_taken_back_puts_it_where_it_was(self):
        calls = [graph(1), graph(2), graph(3), drop(0), drop(0), back(), told(0), told(1), back(), told(0), told(2)]
        self.assertEqual(since_begin(*calls)[5:], [[4], [2, 0], [3, 0], [3], [1, 0], [3, 0]])

    def test_nothing_of_before_a_begin(self):
        self.assertEqual(answered(begin(), graph(1), turn(0), begin(), back()), [[0], [0], [0], [0], [-6]])
        self.assertEqual(last(graph(1), begin(), graph(2), back(), back()), [-6])


if __name__ == "__main__":
    unittest.main()
