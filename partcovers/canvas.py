"""Lists of calls, and the answers to them."""

from partcovers.session import Session

BEGIN = 1
ADD_CONTOUR = 2
CLEAR = 3
COVERAGE = 4
AREA = 5


class UnknownCall(ValueError):
    """A call whose number is none of those that are answered."""


def call_length(calls, place):
    """How many numbers the call that begins at this place has, its own number included."""
    operation = calls[place]
    if operation == BEGIN:
        return 4
    if operation == ADD_CONTOUR:
        return 2 + calls[place + 1]
    if operation == COVERAGE:
        return 3
    return 1


def answer_to(session, call):
    """The numbers that the session answers to one call."""
    operation = call[0]
    if operation == BEGIN:
        return session.begin(call[1], call[2], call[3])
    if operation == ADD_CONTOUR:
        return session.add_contour(call[2:])
    if operation == CLEAR:
        return session.clear_contours()
    if operation == COVERAGE:
        return session.coverage(call[1], call[2])
    if operation == AREA:
        return session.area()
    raise UnknownCall(f"no call has the number {operation}")


def answers(calls):
    """The answers to a list of calls on a new session, each with its length ahead."""
    session = Session()
    told = []
    place = 0
    while place < len(calls):
        behind = place + call_length(calls, place)
        answer = answer_to(session, calls[place:behind])
        told.append(len(answer))
        told.extend(answer)
        place = behind
    return told
