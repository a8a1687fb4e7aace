"""The calls on one file, one behind another, and what's answered to them."""

from fileoffice.desk import Desk
from fileoffice.reader import Reader

FILE = 0
NEWER = 1
LIST = 2
SENTENCE = 3
DONE = 4


def answers(calls):
    reader = Reader(calls)
    desk = Desk()
    told = []
    while not reader.is_at_end():
        answer = answer_call(desk, reader)
        told.append(len(answer))
        told.extend(answer)
    return told


def answer_call(desk, reader):
    call = reader.take_number()
    if call == FILE:
        return desk.lay_file(reader.take_row())
    if call == NEWER:
        return desk.lay_newer(reader.take_row())
    if call == LIST:
        return desk.list_sentences()
    if call == SENTENCE:
        number = reader.take_number()
        return desk.show_sentence(reader.take_row(), number)
    if call == DONE:
        number = reader.take_number()
        key = reader.take_row()
        return desk.put_translation(key, number, reader.take_row())
    raise NotImplementedError(f"call {call}")
