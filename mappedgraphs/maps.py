"""Maps of one graph into another, the fold and the core.

A map is a list: what each place gets.
"""

from mappedgraphs.graphs import arrows_of, part_of


def keeps_arrows_of_last(given, one, other):
    """Whether the arrows between the last place told and all told so far become arrows."""
    last = len(given) - 1
    for place in range(len(given)):
        if one[place][last] and not other[given[place]][given[last]]:
            return False
        if one[last][place] and not other[given[last]][given[place]]:
            return False
    return True


def one_place_longer(starts, one, other):
    longer = []
    for start in starts:
        for goal in range(len(other)):
            given = start + [goal]
            if keeps_arrows_of_last(given, one, other):
                longer.append(given)
    return longer


def maps_between(one, other):
    """All maps of one into other, in order.

    Each round keeps the order: the starts are in order, and each is followed by its goals as they rise.
    """
    found = [[]]
    for place in range(len(one)):
        found = one_place_longer(found, one, other)
    return found


def is_map(one, other, given):
    if len(given) != len(one) or any([goal >= len(other) for goal in given]):
        return False
    return all([other[given[u]][given[v]] for u, v in arrows_of(one)])


def gives_none_twice(given):
    return len(set(given)) == len(given)


def gives_each(other, given):
    return all([place in given for place in range(len(other))])


def got_by(given, place):
    return given[place] if place < len(given) else 0


def hits_each_arrow(one, other, given):
    """Whether each arrow of other is hit; a place of one that the list doesn't tell gets 0."""
    hit = [(got_by(given, u), got_by(given, v)) for u, v in arrows_of(one)]
    return all([arrow in hit for arrow in arrows_of(other)])


def fold_of(graph):
    """Of like maps min takes the first, and the maps are in order."""
    return min(maps_between(graph, graph), key=lambda given: len(set(given)))


def core_places(graph):
    return sorted(set(fold_of(graph)))


def core_of(graph):
    return part_of(graph, core_places(graph))
