"""Two graphs told apart: the first graph, as graphs are numbered, from which there aren't as many maps into both."""

from mappedgraphs.graphs import graph_of
from mappedgraphs.maps import maps_between

# How many graphs of 0, 1, 2 and 3 places there are: each number below that is the number of one.
HOW_MANY_GRAPHS = (1, 2, 16, 512)


# The number of the graph that has each arrow that may be there for these goals to be a map of it.
def number_allowed(graph, given):
    number = 0
    power = 1
    for goal in given:
        for other_goal in given:
            if graph[goal][other_goal]:
                number += power
            power *= 2
    return number


def numbers_allowed(places, graph):
    return [number_allowed(graph, given) for given in maps_between(graph_of(places, []), graph)]


# Goals are a map of just those graphs whose arrows are all allowed, so no graph's maps need be sought one by one.
def how_many_allow(allowed, number):
    return len([most for most in allowed if most & number == number])


def first_apart_of(places, one, other):
    into_one = numbers_allowed(places, one)
    into_other = numbers_allowed(places, other)
    for number in range(HOW_MANY_GRAPHS[places]):
        counts = [how_many_allow(into_one, number), how_many_allow(into_other, number)]
        if counts[0] != counts[1]:
            return [places, number] + counts
    return None


def first_apart(one, other):
    for places in range(1, max(len(one), len(other)) + 1):
        found = first_apart_of(places, one, other)
        if found is not None:
            return found
    return None
