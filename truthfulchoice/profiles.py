"""The interface of the program."""

from truthfulchoice.reading import read_calls
from truthfulchoice.session import Session


def answers(calls):
    session = Session()
    told = []
    for call in read_calls(calls):
        answer = session.carry_out(call)
        told.append(len(answer))
        told.extend(answer)
    return told
