"""Where a text is cut into sentences."""

from fileoffice.things import is_alone, is_closing, is_opening, things_of

BLANK = (32,)
STOPS = ((33,), (46,), (63,))

NO_STOP = 0
STOP = 1
STOP_AND_BLANK = 2


# Each sentence is a tuple of its bytes as they're written; the text must be without fault, its tags too.
def sentences_of(text):
    found = []
    sentence = []
    depth = 0
    ending = NO_STOP
    for thing in things_of(text):
        if depth == 0 and ending == STOP_AND_BLANK and can_begin(thing):
            found.append(tuple(sentence))
            sentence = []
            ending = NO_STOP
        sentence.extend(thing)
        ending = ending_behind(ending, thing)
        depth = depth_behind(depth, thing)
    if sentence:
        found.append(tuple(sentence))
    return found


def can_begin(thing):
    return thing != BLANK and not is_closing(thing)


# How what stands behind the last cut ends, once thing has come to it.
def ending_behind(ending, thing):
    if thing in STOPS:
        return STOP
    if thing == BLANK:
        return NO_STOP if ending == NO_STOP else STOP_AND_BLANK
    return ending if is_closing(thing) or is_alone(thing) else NO_STOP


def depth_behind(depth, thing):
    if is_opening(thing):
        return depth + 1
    return depth - 1 if is_closing(thing) else depth
