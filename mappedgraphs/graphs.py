"""Graphs, and what is made of them.

A graph is a list of rows: row u tells of each place v whether an arrow leads from u to v.
No function here or elsewhere changes a graph that is made, so a graph may be kept in several places.
"""

MOST_PLACES = 5


def graph_where(places, leads):
    rows = []
    for u in range(places):
        rows.append([leads(u, v) for v in range(places)])
    return rows


def pairs_in(numbers):
    return [(numbers[k], numbers[k + 1]) for k in range(0, len(numbers), 2)]


def is_rising(pairs):
    return all([pairs[k] < pairs[k + 1] for k in range(len(pairs) - 1)])


def tells_graph(places, numbers):
    # How many places is asked first: a table of 2^32 places must never be made.
    if places < 1 or places > MOST_PLACES:
        return False
    if len(numbers) % 2 == 1 or any([number >= places for number in numbers]):
        return False
    return is_rising(pairs_in(numbers))


def graph_of(places, arrows):
    return graph_where(places, lambda u, v: (u, v) in arrows)


def arrows_of(graph):
    arrows = []
    for u in range(len(graph)):
        arrows.extend([(u, v) for v in range(len(graph)) if graph[u][v]])
    return arrows


def has_arrow(graph, u, v):
    return u < len(graph) and v < len(graph) and graph[u][v]


def with_arrow(graph, arrow):
    return graph_where(len(graph), lambda u, v: graph[u][v] or (u, v) == arrow)


def without_arrow(graph, arrow):
    return graph_where(len(graph), lambda u, v: graph[u][v] and (u, v) != arrow)


def turned_about(graph):
    return graph_where(len(graph), lambda u, v: graph[v][u])


def by_neighbours(graph):
    return graph_where(len(graph), lambda u, v: graph[u][v] or graph[v][u])


# The places are numbered anew in the order in which they are told.
def part_of(graph, places):
    return graph_where(len(places), lambda u, v: graph[places[u]][places[v]])


def both_at_once(one, other):
    width = len(other)
    return graph_where(
        len(one) * width,
        lambda u, v: one[u // width][v // width] and other[u % width][v % width],
    )


def beside_one_another(one, other):
    behind = len(one)
    return graph_of(
        behind + len(other),
        arrows_of(one) + [(behind + u, behind + v) for u, v in arrows_of(other)],
    )


def tower_of(places):
    return graph_where(places, lambda u, v: u < v)


# A map into this graph is a way to give so many colours.
def each_to_all_others(places):
    return graph_where(places, lambda u, v: u != v)
