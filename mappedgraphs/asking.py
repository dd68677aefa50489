"""The calls that ask and change nothing. Each answers its numbers as a list."""

from mappedgraphs.graphs import arrows_of
from mappedgraphs.maps import gives_each, gives_none_twice, hits_each_arrow, is_map, maps_between
from mappedgraphs.refusals import NO_MAP


def tell(shelf, call):
    graph = shelf.graphs[call.which[0]]
    arrows = arrows_of(graph)
    numbers = [len(graph), len(arrows)]
    for arrow in arrows:
        numbers.extend(arrow)
    return numbers


def maps_asked(shelf, call):
    return maps_between(shelf.graphs[call.which[0]], shelf.graphs[call.which[1]])


def count_maps(shelf, call):
    return [len(maps_asked(shelf, call))]


def map_behind(shelf, call, before):
    found = maps_asked(shelf, call)
    if before >= len(found):
        return [NO_MAP]
    given = found[before]
    return [len(given)] + given


def first_map(shelf, call):
    return map_behind(shelf, call, 0)


def nth_map(shelf, call):
    return map_behind(shelf, call, call.others[0])


def judge_map(shelf, call):
    one = shelf.graphs[call.which[0]]
    other = shelf.graphs[call.which[1]]
    given = call.row
    return [
        int(is_map(one, other, given)),
        int(gives_none_twice(given)),
        int(gives_each(other, given)),
        int(hits_each_arrow(one, other, given)),
    ]


ASKED = {
    10: tell,
    11: count_maps,
    12: first_map,
    13: nth_map,
    14: judge_map,
}
