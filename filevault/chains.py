"""Things with numbers that may each stand in one place alone, and the chains that run through them."""

from filevault.faults import hold
from filevault.fields import END, FREE


class Places:
    def __init__(self, count):
        self.taken = [False] * count

    # Since nothing is taken twice, whoever follows numbers by this comes to an end, in a ring too.
    def take(self, number):
        hold(number < len(self.taken), "a number of what there is")
        hold(not self.taken[number], "one place for each")
        self.taken[number] = True

    def untaken(self):
        return [number for number, is_taken in enumerate(self.taken) if not is_taken]


def follow(places, table, first):
    chain = []
    number = first
    while number != END:
        places.take(number)
        chain.append(number)
        number = table[number]
    return chain


def hold_rest_free(places, table):
    for number in places.untaken():
        hold(table[number] == FREE, "FREE for what is in no chain")
