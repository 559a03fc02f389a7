"""The calls on one new object, one behind another, and what they answer."""

from broughtto.reader import Reader
from broughtto.state import State

BEGIN = 0
MODE = 1
THERE = 2
WANT = 3
UNWANT = 4


class UnknownCall(ValueError):
    pass


def answers(calls):
    reader = Reader(calls)
    state = State()
    told = []
    while reader.has_more():
        answer = answer_call(state, reader)
        told.append(len(answer))
        told.extend(answer)
    return told


def answer_call(state, reader):
    call = reader.take()
    if call == BEGIN:
        return [state.begin()]
    if call == MODE:
        return [answer_mode(state, reader)]
    if call == THERE:
        return [answer_there(state, reader)]
    if call == WANT:
        return [answer_want(state, reader)]
    if call == UNWANT:
        return [state.unwant(reader.take())]
    raise UnknownCall(f"no call has the number {call}")


def answer_mode(state, reader):
    kind = reader.take()
    chosen = reader.take()
    return state.mode(kind, chosen)


def answer_there(state, reader):
    name = reader.take()
    kind = reader.take()
    value = reader.take()
    uses = reader.take_row()
    return state.there(name, kind, value, uses)


def answer_want(state, reader):
    name = reader.take()
    kind = reader.take()
    value = reader.take()
    needs = reader.take_row()
    return state.want(name, kind, value, needs)
