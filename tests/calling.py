"""Writes calls as the interface tells them, and takes the answers apart, one list for each call."""

from mappedgraphs.desk import answers

LARGEST = 4294967295


def begin():
    return [0]


def graph(n, arrows=()):
    return [1, n, len(arrows)] + list(arrows)


def drop(i):
    return [2, i]


def arrow(i, u, v):
    return [3, i, u, v]


def unarrow(i, u, v):
    return [4, i, u, v]


def turn(i):
    return [5, i]


def corein(i):
    return [6, i]


def both(i, j):
    return [7, i, j]


def beside(i, j):
    return [8, i, j]


def back():
    return [9]


def told(i):
    return [10, i]


def count(i, j):
    return [11, i, j]


def first(i, j):
    return [12, i, j]


def nth(i, j, k):
    return [13, i, j, k]


def is_map(i, j, given=()):
    return [14, i, j, len(given)] + list(given)


def kinds(i, j):
    return [15, i, j]


def below(i, j):
    return [16, i, j]


def same(i, j):
    return [17, i, j]


def core(i):
    return [18, i]


def fold(i):
    return [19, i]


def alike(i, j):
    return [20, i, j]


def differ(i, j):
    return [21, i, j]


def walks(i, k):
    return [22, i, k]


def rounds(i, k):
    return [23, i, k]


def tower(i, k):
    return [24, i, k]


def colours(i):
    return [25, i]


def least(i):
    return [26, i]


def order():
    return [27]


def state():
    return [28]


def joined(calls):
    line = []
    for call in calls:
        line.extend(call)
    return line


def taken_apart(numbers):
    parts = []
    at = 0
    while at < len(numbers):
        many = numbers[at]
        parts.append(numbers[at + 1:at + 1 + many])
        at += 1 + many
    assert at == len(numbers), "the last answer is shorter than its count tells"
    return parts


def answered(*calls):
    """The answers of these calls, one list each."""
    parts = taken_apart(answers(joined(calls)))
    assert len(parts) == len(calls), "not one answer for each call"
    return parts


def since_begin(*calls):
    """The answers of these calls behind a begin, without the begin's."""
    return answered(begin(), *calls)[1:]


def last(*calls):
    """The last answer of these calls behind a begin."""
    return since_begin(*calls)[-1]
