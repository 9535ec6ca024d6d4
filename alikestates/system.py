"""A list of calls on one new object, and the list of its answers."""

from alikestates.session import Session, width


def answers(calls):
    session = Session()
    given = []
    at = 0
    while at < len(calls):
        call = calls[at]
        end = at + 1 + width(call)
        answer = session.reply(call, calls[at + 1:end])
        given.append(len(answer))
        given.extend(answer)
        at = end
    return given
