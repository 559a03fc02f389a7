"""The calls on one new object, one behind another, and what they answer."""

from broughtto.course import CHANGE, MAKE, Course
from broughtto.order import refusal
from broughtto.reader import Reader
from broughtto.state import FULL, State

BEGIN = 0
MODE = 1
THERE = 2
WANT = 3
UNWANT = 4
NEXT = 5
DO = 6
STEPS = 7
LOOK = 8
RIGHT = 9

NO_STEP = 0
HAS_NONE = 0
HAS_ONE = 1


class UnknownCall(ValueError):
    pass


def answers(calls):
    reader = Reader(calls)
    state = State()
    told = []
    while reader.has_more():
        answer = answer_call(state, reader)
        told.append(len(answer))
        told.extend(answer)
    return told


def answer_call(state, reader):
    call = reader.take()
    if call == BEGIN:
        return [state.begin()]
    if call == MODE:
        return [answer_mode(state, reader)]
    if call == THERE:
        return [answer_there(state, reader)]
    if call == WANT:
        return [answer_want(state, reader)]
    if call == UNWANT:
        return [state.unwant(reader.take())]
    if call == NEXT:
        return answer_next(state)
    if call == DO:
        return answer_do(state)
    if call == STEPS:
        return answer_steps(state)
    if call == LOOK:
        return state.look(reader.take())
    if call == RIGHT:
        return answer_right(state, reader.take())
    raise UnknownCall(f"no call has the number {call}")


def answer_mode(state, reader):
    kind = reader.take()
    chosen = reader.take()
    return state.mode(kind, chosen)


def answer_there(state, reader):
    name = reader.take()
    kind = reader.take()
    value = reader.take()
    uses = reader.take_row()
    return state.there(name, kind, value, uses)


def answer_want(state, reader):
    name = reader.take()
    kind = reader.take()
    value = reader.take()
    needs = reader.take_row()
    return state.want(name, kind, value, needs)


def answer_next(state):
    refused = refusal(state.wishes)
    if refused is not None:
        return [refused]
    return told_whole(Course(state).next_step())


def answer_do(state):
    refused = refusal(state.wishes)
    if refused is not None:
        return [refused]
    course = Course(state)
    step = course.next_step()
    if step is not None:
        if not course.has_room_for(step):
            return [FULL]
        course.take(step)
    return told_whole(step)


def answer_steps(state):
    refused = refusal(state.wishes)
    if refused is not None:
        return [refused]
    course = Course(state.twin())
    told = []
    count = 0
    step = course.next_step()
    while step is not None:
        if not course.has_room_for(step):
            return [FULL]
        course.take(step)
        told.extend(told_short(step))
        count = count + 1
        step = course.next_step()
    return [count] + told


def answer_right(state, name):
    rights = Course(state).rights
    if name not in rights:
        return [HAS_NONE]
    return [HAS_ONE, rights[name]]


def told_whole(step):
    if step is None:
        return [NO_STEP]
    if step.what == MAKE:
        return [MAKE, step.thing.name, step.thing.kind, step.thing.value] + step.thing.uses
    if step.what == CHANGE:
        return [CHANGE, step.number, step.thing.value] + step.thing.uses
    return [step.what, step.number]


def told_short(step):
    if step.what == MAKE:
        return [MAKE, step.thing.name]
    return [step.what, step.number]
