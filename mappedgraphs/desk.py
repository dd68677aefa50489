"""The one function to call: a list of calls in, the list of their answers out.

For each call, in order, the list tells how many numbers are answered, then these.
"""

from mappedgraphs.asking import ASKED
from mappedgraphs.changes import CHANGES
from mappedgraphs.reading import Reader
from mappedgraphs.refusals import MISSING, NOT_BEGUN
from mappedgraphs.shelf import Shelf

BEGIN = 0


def answers(calls):
    shelf = Shelf()
    reader = Reader(calls)
    told = []
    while not reader.is_done():
        numbers = answer_call(shelf, reader.take_call())
        told.append(len(numbers))
        told.extend(numbers)
    return told


# The two refusals that all calls share go ahead of what each call refuses itself.
def answer_call(shelf, call):
    if call.number != BEGIN and not shelf.begun:
        return [NOT_BEGUN]
    if any([which >= len(shelf.graphs) for which in call.which]):
        return [MISSING]
    return answer_standing(shelf, call)


def answer_standing(shelf, call):
    number = call.number
    if number in CHANGES:
        return CHANGES[number](shelf, call)
    return ASKED[number](shelf, call)
