"""How calls and answers lie, the refusals that all calls share, and that nothing is kept or changed."""

import unittest
from contextlib import redirect_stderr, redirect_stdout
from io import StringIO

from mappedgraphs.desk import answers
from tests.calling import (
    LARGEST, alike, answered, arrow, back, begin, below, beside, both, colours, core, corein, count, differ, drop,
    first, fold, graph, is_map, joined, kinds, least, nth, order, rounds, same, since_begin, state, told, tower, turn,
    unarrow, walks,
)

# Each call that tells a graph, with one that isn't there at each place where it tells one; graph 0 has
# two places and one arrow. Whatever else they'd be refused for, -2 is told first.
NO_SUCH_GRAPH = (
    drop(1), drop(LARGEST), arrow(1, 0, 0), arrow(LARGEST, 9, 9), unarrow(1, 0, 1), turn(1), corein(1),
    both(1, 0), both(0, 1), both(1, 1), beside(1, 0), beside(0, 1), told(1), told(LARGEST),
    count(1, 0), count(0, 1), first(1, 0), first(0, 1), nth(1, 0, 0), nth(0, 1, 0), nth(0, 1, LARGEST),
    is_map(1, 0, [0]), is_map(0, 1, [0, 1]), is_map(0, LARGEST, []),
    kinds(1, 0), kinds(0, 1), kinds(LARGEST, 0), below(1, 0), below(0, 1), below(1, 1), below(0, LARGEST),
    same(1, 0), same(0, 1), same(1, 1), same(LARGEST, LARGEST), core(1), core(LARGEST), fold(1), fold(LARGEST),
    alike(1, 0), alike(0, 1), alike(1, 1), differ(1, 0), differ(0, 1), differ(1, 1), differ(0, LARGEST),
    walks(1, 0), walks(1, 13), walks(LARGEST, LARGEST), rounds(1, 0), rounds(1, 13), rounds(LARGEST, LARGEST),
    tower(1, 1), tower(1, 0), tower(1, 7), tower(LARGEST, LARGEST), colours(1), colours(LARGEST), least(1),
    least(LARGEST),
)

ALL_BUT_BEGIN = (
    graph(1), graph(0), drop(0), arrow(0, 0, 0), unarrow(0, 0, 0), turn(0), corein(0), both(0, 0),
    beside(0, 0), back(), told(0), count(0, 0), first(0, 0), nth(0, 0, 0), is_map(0, 0, [0]),
    kinds(0, 0), below(0, 0), same(0, 0), core(0), fold(0), alike(0, 0), differ(0, 0), walks(0, 1), walks(0, 13),
    rounds(0, 1), rounds(0, 13), tower(0, 1), tower(0, 0), colours(0), least(0), order(), state(),
)

TELLING_NO_GRAPH = (graph(1), graph(0), back(), order(), state())

MIXED = (
    back(), begin(), graph(2, [0, 1]), graph(3, [0, 1, 1, 2, 2, 0]), arrow(0, 1, 0), arrow(0, 1, 0), turn(1),
    both(0, 1), beside(0, 1), told(2), corein(0), count(0, 1), first(1, 1), nth(1, 1, 2), is_map(0, 1, [0, 5]),
    graph(2, [0]), drop(1), told(1), unarrow(0, 0, 1), back(), back(), told(0), kinds(0, 1), below(0, 1),
    same(1, 1), core(2), fold(2), alike(0, 2), differ(0, 1), differ(0, 3), walks(1, 12), walks(1, 13), rounds(1, 12),
    rounds(1, LARGEST), tower(0, 2), tower(1, 6), tower(1, 7), colours(0), colours(1), least(1), order(), state(),
)


class Layout(unittest.TestCase):
    def test_each_answer_has_its_count_ahead(self):
        line = [0, 1, 2, 2, 0, 1, 10, 0, 11, 0, 0, 12, 0, 0, 13, 0, 0, 1, 14, 0, 0, 2, 0, 1, 5, 0, 9, 2, 0]
        self.assertEqual(answers(line), [
            1, 0, 1, 0, 4, 2, 1, 0, 1, 1, 1, 3, 2, 0, 1, 1, -33, 4, 1, 1, 1, 1, 1, 0, 1, 1, 1, 0,
        ])

    def test_numbers_are_plain_whole_numbers_in_a_list(self):
        told_numbers = answers(joined(MIXED))
        self.assertIs(type(told_numbers), list)
        self.assertEqual({type(number) for number in told_numbers}, {int})

    def test_a_refused_call_is_read_to_its_end(self):
        self.assertEqual(
            answered(graph(1, [0] * 60), is_map(0, 0, [9] * 12), begin(), graph(9, [0] * 60), is_map(0, 0, [0] * 12),
                     nth(3, 3, 9), arrow(3, 0, 0), graph(1), told(0)),
            [[-61], [-61], [0], [-22], [-2], [-2], [-2], [0], [1, 0]])

    def test_three_hundred_calls(self):
        every = tuple((u, v) for u in range(5) for v in range(5))
        full = graph(5, joined(every))
        self.assertEqual(since_begin(full, *[count(0, 0)] * 298)[1:], [[3125]] * 298)

    def test_the_counts_ahead_of_the_later_calls(self):
        calls = [graph(2, [0, 1]), kinds(0, 0), below(0, 0), same(0, 0), core(0), fold(0), alike(0, 0), differ(0, 0),
                 walks(0, 1), rounds(0, 1), tower(0, 1), tower(0, 2), colours(0), least(0), order(), state()]
        self.assertEqual(answers([0] + joined(calls)), [
            1, 0, 1, 0, 4, 1, 1, 1, 1, 2, 1, 1, 3, 2, 0, 1, 3, 2, 0, 1, 3, 2, 0, 1, 3, 2, 0, 1, 1, -6,
            1, 1, 1, 0, 3, 0, 0, 1, 3, 1, 0, 1, 3, 1, 0, 1, 3, 2, 0, 1, 2, 1, 1, 4, 1, 1, 2, 1,
        ])


class SharedRefusals(unittest.TestCase):
    def test_all_but_begin_before_a_begin(self):
        for call in ALL_BUT_BEGIN:
            with self.subTest(call=call):
                self.assertEqual(answered(call, call, begin(), graph(1), told(0)), [[-61], [-61], [0], [0], [1, 0]])

    def test_a_graph_refused_before_a_begin_is_not_there_behind_it(self):
        self.assertEqual(answered(graph(1), begin(), told(0), back()), [[-61], [0], [-2], [-6]])

    def test_no_such_graph(self):
        for call in NO_SUCH_GRAPH:
            with self.subTest(call=call):
                self.assertEqual(since_begin(graph(2, [0, 1]), call, told(0), back()), [[0], [-2], [2, 1, 0, 1], [0]])

    def test_no_such_graph_where_there_are_none(self):
        for call in ALL_BUT_BEGIN:
            if call not in TELLING_NO_GRAPH:
                with self.subTest(call=call):
                    self.assertEqual(since_begin(call, back()), [[-2], [-6]])

    def test_no_such_graph_is_told_ahead_of_all_else(self):
        four = [graph(3)] * 4
        self.assertEqual(since_begin(*four, both(0, 4), beside(4, 0), nth(4, 0, LARGEST), arrow(4, 9, 9))[4:],
                         [[-2], [-2], [-2], [-2]])

    def test_no_such_graph_is_told_ahead_of_a_k_that_is_too_great(self):
        calls = [walks(1, 13), walks(1, LARGEST), rounds(1, 13), rounds(1, LARGEST), tower(1, 0), tower(1, 7),
                 tower(1, LARGEST)]
        self.assertEqual(since_begin(graph(5), *calls)[1:], [[-2]] * 7)

    def test_no_such_graph_is_told_ahead_of_one_that_is_too_large(self):
        self.assertEqual(since_begin(graph(4), differ(0, 1), differ(1, 0), differ(0, 0))[1:], [[-2], [-2], [-75]])

    def test_not_begun_is_told_ahead_of_all_else(self):
        calls = [walks(9, 13), rounds(9, LARGEST), tower(9, 0), differ(9, 9), least(9), graph(0), order(), state()]
        self.assertEqual(answered(*calls), [[-61]] * 8)


class NothingKept(unittest.TestCase):
    def test_the_list_handed_in_is_as_it_was(self):
        line = joined(MIXED)
        copy = list(line)
        answers(line)
        self.assertEqual(line, copy)

    def test_the_list_handed_in_is_not_changed_for_a_while_either(self):
        class Watched(list):
            def refuse(self, *given, **named):
                raise AssertionError("the list handed in is changed")

            append = extend = insert = pop = remove = clear = sort = reverse = refuse
            __setitem__ = __delitem__ = __iadd__ = __imul__ = refuse

        line = joined(MIXED)
        self.assertEqual(answers(Watched(line)), answers(line))

    def test_the_same_list_twice_is_answered_alike(self):
        line = joined(MIXED)
        self.assertEqual(answers(line), answers(line))

    def test_nothing_is_kept_from_one_time_to_the_next(self):
        answers(joined([begin(), graph(1), graph(2, [0, 1])]))
        self.assertEqual(answered(told(0), begin(), told(0), back()), [[-61], [0], [-2], [-6]])

    def test_nothing_is_printed(self):
        printed = StringIO()
        with redirect_stdout(printed), redirect_stderr(printed):
            answers(joined(MIXED))
        self.assertEqual(printed.getvalue(), "")

    def test_an_answer_that_is_changed_changes_no_later_one(self):
        line = joined(MIXED)
        once = answers(line)
        copy = list(once)
        once.clear()
        self.assertEqual(answers(line), copy)


if __name__ == "__main__":
    unittest.main()
