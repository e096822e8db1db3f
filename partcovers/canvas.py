"""Lists of calls, and the answers to them."""

from partcovers.session import Session

BEGIN = 1
ADD_CONTOUR = 2
CLEAR = 3
COVERAGE = 4
AREA = 5
TOTAL_COVERAGE = 6
FILL = 7
DRAW_LINE = 8
ROW = 9
REVERSE = 10


class UnknownCall(ValueError):
    """A call whose number is none of an operation."""


def call_length(calls, place):
    """How many numbers the call that begins at this place has, its own number included."""
    operation = calls[place]
    if operation == BEGIN:
        return 4
    if operation == ADD_CONTOUR:
        return 2 + calls[place + 1]
    if operation == COVERAGE:
        return 3
    if operation == FILL or operation == ROW:
        return 2
    if operation == DRAW_LINE:
        return 6
    return 1


def answer_to(session, call):
    """The numbers that the session answers to one call."""
    operation = call[0]
    if operation == BEGIN:
        return session.begin(call[1], call[2], call[3])
    if operation == ADD_CONTOUR:
        return session.add_contour(call[2:])
    if operation == CLEAR:
        return session.clear_contours()
    if operation == COVERAGE:
        return session.coverage(call[1], call[2])
    if operation == AREA:
        return session.area()
    if operation == TOTAL_COVERAGE:
        return session.total_coverage()
    if operation == FILL:
        return session.fill(call[1])
    if operation == DRAW_LINE:
        return session.draw_line(call[1], call[2], call[3], call[4], call[5])
    if operation == ROW:
        return session.row(call[1])
    if operation == REVERSE:
        return session.reverse_contours()
    raise UnknownCall(f"no call has the number {operation}")


def answers(calls):
    """The answers to a list of calls on a new session, each with its length ahead."""
    session = Session()
    told = []
    place = 0
    while place < len(calls):
        behind = place + call_length(calls, place)
        answer = answer_to(session, calls[place:behind])
        told.append(len(answer))
        told.extend(answer)
        place = behind
    return told
