"""The things of a text that reads without a fault, each as it's written: bytes and tags."""

from fileoffice.reading import BACKSLASH, LESS, SLASH


def things_of(text):
    things = []
    place = 0
    while place < len(text):
        size = thing_size(text, place)
        things.append(tuple(text[place:place + size]))
        place += size
    return things


def thing_size(text, place):
    if text[place] == BACKSLASH:
        return 2
    if text[place] != LESS:
        return 1
    return 4 if SLASH in text[place + 1:place + 3] else 3


# A byte as it's meant is written with one or two bytes: the lengths tell tags from bytes.

def is_opening(thing):
    return len(thing) == 3


def is_closing(thing):
    return len(thing) == 4 and thing[1] == SLASH


def is_alone(thing):
    return len(thing) == 4 and thing[2] == SLASH


# Whether tags close in pairs, all of them, and no digit stands for more than one.
def are_tags_right(things):
    unclosed = []
    seen = {}
    for thing in things:
        if is_closing(thing):
            if not unclosed or unclosed.pop() != thing[2]:
                return False
        elif is_opening(thing) or is_alone(thing):
            if thing[1] in seen:
                return False
            seen[thing[1]] = True
            if is_opening(thing):
                unclosed.append(thing[1])
    return not unclosed


# Sorted, since a translation may have its tags in another order. A pair is told by its opening tag.
def tags_of(things):
    return sorted([thing for thing in things if is_opening(thing) or is_alone(thing)])
