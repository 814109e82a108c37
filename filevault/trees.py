"""The trees that hang below the root and the folders."""

from filevault.chains import Places
from filevault.directory import FOLDER
from filevault.faults import hold
from filevault.fields import FREE


# From left to right. The entries on the way down wait in a list, as a tree may be as deep as it is long.
def walk_tree(entries, places, first):
    walked = []
    waiting = []
    number = first
    while number != FREE or waiting:
        if number != FREE:
            places.take(number)
            hold(entries[number] is not None, "something that hangs in a tree")
            waiting.append(number)
            number = entries[number].left
        else:
            number = waiting.pop()
            walked.append(number)
            number = entries[number].right
    return walked


def hold_order(entries, walked):
    for before, behind in zip(walked, walked[1:]):
        hold(entries[before].key < entries[behind].key, "names in order")


# Only what hangs below the root is walked: folders that hang below one another alone are left over so.
def read_trees(entries):
    places = Places(len(entries))
    places.take(0)
    children = [[] for entry in entries]
    folders = [0]
    while folders:
        folder = folders.pop()
        walked = walk_tree(entries, places, entries[folder].first_below)
        hold_order(entries, walked)
        children[folder] = walked
        folders.extend([number for number in walked if entries[number].kind == FOLDER])
    for number in places.untaken():
        hold(entries[number] is None, "a place below the root for each entry")
    return children
