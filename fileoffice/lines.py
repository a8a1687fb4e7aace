"""A file's lines: what's wrong with them, and the keys and texts that they hold."""

from fileoffice.reading import EQUALS, KEY_BEGIN, fault_place
from fileoffice.things import are_tags_right, things_of

LINE_END = 10
REMARK = 35
WRONG_TAGS = 998
KEY_TWICE = 999


def lines_of(text):
    lines = []
    line = []
    for byte in text:
        if byte == LINE_END:
            lines.append(line)
            line = []
        else:
            line.append(byte)
    lines.append(line)
    return lines


def file_of(lines):
    text = list(lines[0])
    for line in lines[1:]:
        text.append(LINE_END)
        text.extend(line)
    return text


# The number that tells the fault, or None. Keys are compared only where each line is right by itself.
def file_fault(lines):
    for number, line in enumerate(lines):
        fault = line_fault(line)
        if fault is not None:
            return told_fault(number, fault)
    return key_fault(lines)


# What is wrong with the line by itself: a place, or WRONG_TAGS; None, if nothing is.
def line_fault(line):
    if is_kept(line):
        return None
    place = fault_place(line, KEY_BEGIN)
    if place is not None:
        return place
    return None if are_tags_right(things_of(text_of(line))) else WRONG_TAGS


def key_fault(lines):
    seen = {}
    for number, line in enumerate(lines):
        if not is_kept(line):
            key = key_of(line)
            if key in seen:
                return told_fault(number, KEY_TWICE)
            seen[key] = True
    return None


def told_fault(number, fault):
    return -1000 - 1000 * number - fault


def is_kept(line):
    return not line or line[0] == REMARK


def key_of(line):
    return tuple(line[:line.index(EQUALS)])


def text_of(line):
    return tuple(line[line.index(EQUALS) + 1:])


def line_of(key, text):
    return list(key) + [EQUALS] + list(text)


# By key, in the file's order; the lines must be without fault.
def texts_of(lines):
    texts = {}
    for line in lines:
        if not is_kept(line):
            texts[key_of(line)] = text_of(line)
    return texts
