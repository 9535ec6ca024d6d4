"""A list of calls on one new object, and the list of its answers."""

from alikestates.calls import calls_in
from alikestates.session import Session


def answers(calls):
    session = Session()
    told = []
    for call, given in calls_in(calls):
        answer = session.reply(call, given)
        told.append(len(answer))
        told.extend(answer)
    return told
