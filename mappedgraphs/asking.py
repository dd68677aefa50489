"""The calls that ask and change nothing. Each answers its numbers as a list."""

from mappedgraphs.apart import first_apart
from mappedgraphs.colours import fewest_colours, first_colours, shortest_odd_walk
from mappedgraphs.graphs import arrows_of, tower_of
from mappedgraphs.maps import (
    core_of,
    core_places,
    first_map_between,
    first_renaming,
    fold_of,
    gives_each,
    gives_none_twice,
    hits_each_arrow,
    is_below,
    is_map,
    maps_between,
)
from mappedgraphs.refusals import MALFORMED, NO_MAP, NOTHING, TOO_LARGE
from mappedgraphs.walks import count_rounds, count_walks, first_walk

MOST_PLACES_TOLD_APART = 3
MOST_ARROWS_WALKED = 12
HIGHEST_TOWER = 6


def first_told(shelf, call):
    return shelf.graphs[call.which[0]]


def second_told(shelf, call):
    return shelf.graphs[call.which[1]]


def counted(numbers):
    return [len(numbers)] + numbers


def counted_map(given):
    return [NO_MAP] if given is None else counted(given)


def tell(shelf, call):
    graph = first_told(shelf, call)
    arrows = arrows_of(graph)
    numbers = [len(graph), len(arrows)]
    for arrow in arrows:
        numbers.extend(arrow)
    return numbers


def maps_asked(shelf, call):
    return maps_between(first_told(shelf, call), second_told(shelf, call))


def count_maps(shelf, call):
    return [len(maps_asked(shelf, call))]


def first_map(shelf, call):
    return counted_map(first_map_between(first_told(shelf, call), second_told(shelf, call)))


def nth_map(shelf, call):
    found = maps_asked(shelf, call)
    before = call.others[0]
    return counted(found[before]) if before < len(found) else [NO_MAP]


def judge_map(shelf, call):
    one = first_told(shelf, call)
    other = second_told(shelf, call)
    given = call.row
    return [
        int(is_map(one, other, given)),
        int(gives_none_twice(given)),
        int(gives_each(other, given)),
        int(hits_each_arrow(one, other, given)),
    ]


def count_kinds(shelf, call):
    one = first_told(shelf, call)
    other = second_told(shelf, call)
    found = maps_between(one, other)
    giving_each = [given for given in found if gives_each(other, given)]
    return [
        len(found),
        len([given for given in found if gives_none_twice(given)]),
        len(giving_each),
        len([given for given in giving_each if hits_each_arrow(one, other, given)]),
    ]


def judge_below(shelf, call):
    one = first_told(shelf, call)
    other = second_told(shelf, call)
    return [int(is_below(one, other)), int(is_below(other, one))]


def rename(shelf, call):
    return counted_map(first_renaming(first_told(shelf, call), second_told(shelf, call)))


def tell_core(shelf, call):
    return counted(core_places(first_told(shelf, call)))


def tell_fold(shelf, call):
    return counted(fold_of(first_told(shelf, call)))


def rename_cores(shelf, call):
    return counted_map(first_renaming(core_of(first_told(shelf, call)), core_of(second_told(shelf, call))))


def tell_apart(shelf, call):
    one = first_told(shelf, call)
    other = second_told(shelf, call)
    if max(len(one), len(other)) > MOST_PLACES_TOLD_APART:
        return [TOO_LARGE]
    found = first_apart(one, other)
    return [NOTHING] if found is None else found


def tell_walks(shelf, call):
    arrows = call.others[0]
    if arrows > MOST_ARROWS_WALKED:
        return [MALFORMED]
    return [count_walks(first_told(shelf, call), arrows)]


def tell_rounds(shelf, call):
    arrows = call.others[0]
    if arrows > MOST_ARROWS_WALKED:
        return [MALFORMED]
    return [count_rounds(first_told(shelf, call), arrows)]


def map_or_walk(shelf, call):
    graph = first_told(shelf, call)
    height = call.others[0]
    if height < 1 or height > HIGHEST_TOWER:
        return [MALFORMED]
    given = first_map_between(graph, tower_of(height))
    if given is None:
        return [0] + first_walk(graph, height)
    return [1] + given


def two_colours_or_walk(shelf, call):
    graph = first_told(shelf, call)
    given = first_colours(graph, 2)
    if given is None:
        return [0] + counted(shortest_odd_walk(graph))
    return [1] + given


def tell_fewest_colours(shelf, call):
    found = fewest_colours(first_told(shelf, call))
    return [NO_MAP] if found is None else found


def tell_order(shelf, call):
    numbers = [len(shelf.graphs)]
    for one in shelf.graphs:
        numbers.extend([int(is_below(one, other)) for other in shelf.graphs])
    return numbers


def tell_state(shelf, call):
    numbers = [len(shelf.graphs), len(shelf.past)]
    for graph in shelf.graphs:
        numbers.extend([len(graph), len(arrows_of(graph))])
    return numbers


ASKED = {
    10: tell,
    11: count_maps,
    12: first_map,
    13: nth_map,
    14: judge_map,
    15: count_kinds,
    16: judge_below,
    17: rename,
    18: tell_core,
    19: tell_fold,
    20: rename_cores,
    21: tell_apart,
    22: tell_walks,
    23: tell_rounds,
    24: map_or_walk,
    25: two_colours_or_walk,
    26: tell_fewest_colours,
    27: tell_order,
    28: tell_state,
}
