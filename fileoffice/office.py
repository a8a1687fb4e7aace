"""The calls on one file, one behind another, and what's answered to them."""

from fileoffice.desk import Desk
from fileoffice.reader import Reader

FILE = 0
NEWER = 1
LIST = 2
SENTENCE = 3
DONE = 4
UNDONE = 5
BUILD = 6
TODO = 7
KEY = 8


def answers(calls):
    reader = Reader(calls)
    desk = Desk()
    told = []
    while not reader.is_at_end():
        answer = answer_call(desk, reader)
        told.append(len(answer))
        told.extend(answer)
    return told


def answer_call(desk, reader):
    call = reader.take_number()
    if call == FILE:
        return desk.lay_file(reader.take_row())
    if call == NEWER:
        return desk.lay_newer(reader.take_row())
    if call == LIST:
        return desk.list_sentences()
    if call == BUILD:
        return desk.build_file()
    if call == TODO:
        return desk.list_undone()
    if call == KEY:
        return desk.show_key(reader.take_row())
    if call in (SENTENCE, DONE, UNDONE):
        return answer_sentence_call(call, desk, reader)
    raise ValueError(f"there is no call {call}")


def answer_sentence_call(call, desk, reader):
    number = reader.take_number()
    key = reader.take_row()
    if call == SENTENCE:
        return desk.show_sentence(key, number)
    if call == DONE:
        return desk.put_translation(key, number, reader.take_row())
    return desk.take_translation_away(key, number)
