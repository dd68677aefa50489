"""The calls that change what stands: begin to back. Each answers its numbers as a list."""

from mappedgraphs.graphs import (
    MOST_PLACES,
    arrows_of,
    beside_one_another,
    both_at_once,
    graph_of,
    has_arrow,
    pairs_in,
    tells_graph,
    turned_about,
    with_arrow,
    without_arrow,
)
from mappedgraphs.maps import core_of
from mappedgraphs.refusals import FULL, MALFORMED, MISSING, NOTHING, TOO_LARGE, TWICE


def begin(shelf, call):
    shelf.begin_anew()
    return [0]


def put_graph(shelf, call):
    places = call.others[0]
    if not tells_graph(places, call.row):
        return [MALFORMED]
    if shelf.is_full():
        return [FULL]
    return stand_behind(shelf, graph_of(places, pairs_in(call.row)))


def stand_behind(shelf, graph):
    shelf.put_behind(graph)
    return [len(shelf.graphs) - 1]


def drop(shelf, call):
    shelf.take_out(call.which[0])
    return [len(shelf.graphs)]


def put_arrow(shelf, call):
    graph = shelf.graphs[call.which[0]]
    u = call.others[0]
    v = call.others[1]
    if u >= len(graph) or v >= len(graph):
        return [MISSING]
    if has_arrow(graph, u, v):
        return [TWICE]
    return change_arrows(shelf, call, with_arrow(graph, (u, v)))


def take_arrow(shelf, call):
    graph = shelf.graphs[call.which[0]]
    u = call.others[0]
    v = call.others[1]
    if not has_arrow(graph, u, v):
        return [MISSING]
    return change_arrows(shelf, call, without_arrow(graph, (u, v)))


def change_arrows(shelf, call, graph):
    shelf.put_in_place(call.which[0], graph)
    return [len(arrows_of(graph))]


def turn(shelf, call):
    which = call.which[0]
    shelf.put_in_place(which, turned_about(shelf.graphs[which]))
    return [0]


def put_core(shelf, call):
    which = call.which[0]
    core = core_of(shelf.graphs[which])
    shelf.put_in_place(which, core)
    return [len(core)]


def put_both(shelf, call):
    one = shelf.graphs[call.which[0]]
    other = shelf.graphs[call.which[1]]
    if len(one) * len(other) > MOST_PLACES:
        return [TOO_LARGE]
    if shelf.is_full():
        return [FULL]
    return stand_behind(shelf, both_at_once(one, other))


def put_beside(shelf, call):
    one = shelf.graphs[call.which[0]]
    other = shelf.graphs[call.which[1]]
    if len(one) + len(other) > MOST_PLACES:
        return [TOO_LARGE]
    if shelf.is_full():
        return [FULL]
    return stand_behind(shelf, beside_one_another(one, other))


def back(shelf, call):
    if len(shelf.past) == 0:
        return [NOTHING]
    shelf.take_back()
    return [len(shelf.past)]


CHANGES = {
    0: begin,
    1: put_graph,
    2: drop,
    3: put_arrow,
    4: take_arrow,
    5: turn,
    6: put_core,
    7: put_both,
    8: put_beside,
    9: back,
}
