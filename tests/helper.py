"""Calls written as a person would, and answers taken apart call by call."""

from fileoffice.office import answers


def numbers(text):
    """A list of numbers as it is; a text as its signs' numbers, also those that are no bytes."""
    return [ord(sign) for sign in text] if isinstance(text, str) else list(text)


def row(text):
    found = numbers(text)
    return [len(found)] + found


def file(text):
    return [0] + row(text)


def newer(text):
    return [1] + row(text)


def list_all():
    return [2]


def sentence(key, number):
    return [3, number] + row(key)


def done(key, number, translation):
    return [4, number] + row(key) + row(translation)


def undone(key, number):
    return [5, number] + row(key)


def build():
    return [6]


def todo():
    return [7]


def key_texts(key):
    return [8] + row(key)


def joined(calls):
    return [number for call in calls for number in call]


def ask(*calls):
    """The answers, a list for each call."""
    told = answers(joined(calls))
    found = []
    place = 0
    for call in calls:
        size = told[place]
        found.append(told[place + 1:place + 1 + size])
        assert len(found[-1]) == size, "an answer is shorter than told"
        place += 1 + size
    assert place == len(told), "more is answered than was asked"
    return found


def last(*calls):
    return ask(*calls)[-1]


def shown(text, translation=None):
    """What sentence answers, of a sentence with this translation, or with none."""
    return row(text) + ([0] if translation is None else [1] + row(translation))


def listed(*rows):
    """What list answers, of rows (key, number, size, 1 or 0)."""
    return [len(rows)] + joined([row(key) + rest for key, *rest in rows])


def left(*spots):
    """What todo answers, of spots (key, number)."""
    return [len(spots)] + joined([row(key) + [number] for key, number in spots])


def both(text, built):
    """What key answers, of a text and of it put together."""
    return row(text) + row(built)


def sentences(text):
    """A text's sentences, as list and sentence tell them."""
    told = last(file("k=" + text), list_all())
    found = []
    for number in range(told[0]):
        answer = last(file("k=" + text), sentence("k", number))
        assert answer[-1] == 0, "nothing is done yet"
        found.append(bytes(answer[1:-1]).decode("latin-1"))
        assert answer[0] == len(found[-1]), "a sentence is not as long as told"
    assert told == listed(*[("k", number, len(each), 0) for number, each in enumerate(found)])
    return found
