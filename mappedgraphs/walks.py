"""Walks: how many there are, and of like ones the first.

Where a walk may end is told by a list, the ends: 1 for each place where it may, else 0.
"""


def ends_anywhere(graph):
    return [1] * len(graph)


def ends_at(graph, end):
    return [int(place == end) for place in range(len(graph))]


def sum_of_next(row, counts):
    return sum([counts[place] for place in range(len(row)) if row[place]])


# Of each place how many walks of so many arrows begin there. They are counted from their ends on, an arrow at a
# time, as there may be more than a thousand million of them.
def walks_from_each(graph, arrows, ends):
    counts = ends
    for taken in range(arrows):
        counts = [sum_of_next(row, counts) for row in graph]
    return counts


def count_walks(graph, arrows):
    return sum(walks_from_each(graph, arrows, ends_anywhere(graph)))


def count_closed(graph, arrows, start):
    return walks_from_each(graph, arrows, ends_at(graph, start))[start]


def count_rounds(graph, arrows):
    return sum([count_closed(graph, arrows, start) for start in range(len(graph))])


def least_with_walks(places, counts):
    return min([place for place in places if counts[place] > 0])


# The least next place is the first one's only if what is left of the walk can be gone from there.
def first_walk_from(graph, start, arrows, ends):
    walk = [start]
    for taken in range(1, arrows + 1):
        row = graph[walk[-1]]
        led_to = [place for place in range(len(row)) if row[place]]
        walk.append(least_with_walks(led_to, walks_from_each(graph, arrows - taken, ends)))
    return walk


# This is asked only where there is one.
def first_walk(graph, arrows):
    ends = ends_anywhere(graph)
    start = least_with_walks(list(range(len(graph))), walks_from_each(graph, arrows, ends))
    return first_walk_from(graph, start, arrows, ends)


def first_closed_walk(graph, arrows):
    for start in range(len(graph)):
        if count_closed(graph, arrows, start) > 0:
            return first_walk_from(graph, start, arrows, ends_at(graph, start))
    return None
