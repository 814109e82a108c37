"""Names and paths: what a name may be, which names are alike, and which comes first."""

from filevault.faults import hold
from filevault.fields import two_bytes

SLASH = 47
BANNED = (33, 47, 58, 92)
MOST_CHARACTERS = 31


def great_letter(character):
    return character - 32 if 97 <= character <= 122 else character


# Alike names have one key, and the keys of others stand in the names' order.
def key_of(name):
    return [len(name)] + [great_letter(character) for character in name]


def is_allowed(character):
    return 32 <= character <= 126 and character not in BANNED


def read_name(row):
    length = two_bytes(row, 64)
    hold(length % 2 == 0, "two bytes a character")
    count = length // 2 - 1
    hold(1 <= count <= MOST_CHARACTERS, "from 1 to 31 characters")
    name = [two_bytes(row, 2 * k) for k in range(count)]
    hold(all([is_allowed(character) for character in name]), "characters that a name may have")
    hold(two_bytes(row, 2 * count) == 0, "a character 0 behind the name")
    return name


def names_in(path):
    if not path:
        return []
    names = []
    name = []
    for character in path:
        if character == SLASH:
            names.append(name)
            name = []
        else:
            name.append(character)
    names.append(name)
    return names
