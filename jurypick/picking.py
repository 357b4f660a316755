"""The way in: answers to a list of calls about one picking."""

from jurypick.calls import begin, excuse, strike, pass_turn, objection, let
from jurypick.calls import agree, verdict, now, box, fates
from jurypick.reader import Reader
from jurypick.state import Picking
from jurypick.words import BEGIN, EXCUSE, STRIKE, PASS, OBJECT, LET
from jurypick.words import AGREE, VERDICT, NOW, BOX, FATES

BEGIN_NUMBERS = 7


def answer_call(picking, reader):
    call = reader.take()
    if call == BEGIN:
        return begin(picking, reader.take_some(BEGIN_NUMBERS), reader.take_row())
    if call == EXCUSE:
        return excuse(picking, reader.take())
    if call == STRIKE:
        return strike(picking, reader.take(), reader.take())
    if call == PASS:
        return pass_turn(picking, reader.take())
    if call == OBJECT:
        return objection(picking, reader.take(), reader.take())
    if call == LET:
        return let(picking, reader.take())
    if call == AGREE:
        return agree(picking, reader.take())
    if call == VERDICT:
        return verdict(picking, reader.take_row())
    if call == NOW:
        return now(picking)
    if call == BOX:
        return box(picking)
    if call == FATES:
        return fates(picking)
    raise KeyError(call)


def answers(calls):
    picking = Picking()
    reader = Reader(calls)
    answered = []
    while not reader.at_end():
        answer = answer_call(picking, reader)
        answered.append(len(answer))
        answered.extend(answer)
    return answered
