"""Maps of one graph into another, the fold and the core.

A map is a list: what each place gets. Where a map is asked for and there's none, it is None.
"""

from mappedgraphs.graphs import arrows_of, part_of


# All earlier places were looked at when they were the last, so only the last one's arrows are left to ask.
def keeps_arrows_of_last(given, one, other):
    last = len(given) - 1
    for place in range(len(given)):
        if one[place][last] and not other[given[place]][given[last]]:
            return False
        if one[last][place] and not other[given[last]][given[place]]:
            return False
    return True


def one_place_longer(starts, one, other):
    longer = []
    for start in starts:
        for goal in range(len(other)):
            given = start + [goal]
            if keeps_arrows_of_last(given, one, other):
                longer.append(given)
    return longer


# Each round keeps the maps in order: the starts are in order, and each is followed by its goals as they rise.
def maps_between(one, other):
    found = [[]]
    for place in range(len(one)):
        found = one_place_longer(found, one, other)
    return found


# The first is sought by itself, as all maps may be thousands; the calls go no deeper than there are places.
def first_behind(start, one, other):
    if len(start) == len(one):
        return start
    for given in one_place_longer([start], one, other):
        found = first_behind(given, one, other)
        if found is not None:
            return found
    return None


def first_map_between(one, other):
    return first_behind([], one, other)


def is_below(one, other):
    return first_map_between(one, other) is not None


def is_map(one, other, given):
    if len(given) != len(one) or any([goal >= len(other) for goal in given]):
        return False
    return all([other[given[u]][given[v]] for u, v in arrows_of(one)])


def gives_none_twice(given):
    return len(set(given)) == len(given)


def gives_each(other, given):
    return all([place in given for place in range(len(other))])


# This is asked of lists that are too short as well: a place that they don't tell gets 0.
def got_by(given, place):
    return given[place] if place < len(given) else 0


def hits_each_arrow(one, other, given):
    hit = [(got_by(given, u), got_by(given, v)) for u, v in arrows_of(one)]
    return all([arrow in hit for arrow in arrows_of(other)])


def first_renaming(one, other):
    for given in maps_between(one, other):
        if gives_none_twice(given) and gives_each(other, given) and hits_each_arrow(one, other, given):
            return given
    return None


# Of maps that hit as few places min takes the first, and the maps are in order.
def fold_of(graph):
    return min(maps_between(graph, graph), key=lambda given: len(set(given)))


def core_places(graph):
    return sorted(set(fold_of(graph)))


def core_of(graph):
    return part_of(graph, core_places(graph))
