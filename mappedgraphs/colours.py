"""Colours: the first way to give them, how few do, and the walk that shows that two don't."""

from mappedgraphs.graphs import by_neighbours, each_to_all_others
from mappedgraphs.maps import first_map_between
from mappedgraphs.walks import first_closed_walk


def first_colours(graph, many):
    return first_map_between(graph, each_to_all_others(many))


# As many colours as there are places do, but where a place has an arrow to itself: there none do.
def fewest_colours(graph):
    for many in range(1, len(graph) + 1):
        given = first_colours(graph, many)
        if given is not None:
            return [many] + given
    return None


# A shortest one comes to no place twice ahead of its end, so it has no more steps than there are places.
def shortest_odd_walk(graph):
    neighbours = by_neighbours(graph)
    for steps in range(1, len(graph) + 1, 2):
        walk = first_closed_walk(neighbours, steps)
        if walk is not None:
            return walk
    return None
