"""The calls on one service, from their numbers to the numbers of their answers."""

from exceptranks.service import Service

BEGINS = 0
LINE = 1
RULE = 2
NORMALLY = 3


class UnknownCall(ValueError):
    def __init__(self, call):
        ValueError.__init__(self, f"no call has the number {call}")


def answer_with_concepts(service, call, concepts):
    if call == LINE:
        return service.line(concepts)
    if call == RULE:
        return service.rule(concepts)
    if call == NORMALLY:
        return service.normally(concepts)
    raise UnknownCall(call)


def answers(calls):
    service = Service()
    given = []
    at = 0
    while at < len(calls):
        if calls[at] == BEGINS:
            answer = service.begins()
            at += 1
        else:
            end = at + 2 + calls[at + 1]
            answer = answer_with_concepts(service, calls[at], calls[at + 2:end])
            at = end
        given.append(len(answer))
        given.extend(answer)
    return given
