"""The calls on one service, from their numbers to the numbers of their answers."""

from exceptranks.service import Service

BEGINS = 0
LINE = 1
RULE = 2
NORMALLY = 3
ALWAYS = 4
RANK = 5
RANKS = 6
DROP = 7


class UnknownCall(ValueError):
    def __init__(self, call):
        ValueError.__init__(self, f"no call has the number {call}")


# The place behind the call that begins at `at`.
def call_end(calls, at):
    if calls[at] in (BEGINS, RANKS):
        return at + 1
    if calls[at] == DROP:
        return at + 2
    if calls[at] in (LINE, RULE, NORMALLY, ALWAYS, RANK):
        return at + 2 + calls[at + 1]
    raise UnknownCall(calls[at])


def answer_to(service, call):
    if call[0] == BEGINS:
        return service.begins()
    if call[0] == RANKS:
        return service.ranks()
    if call[0] == DROP:
        return service.drop(call[1])
    return answer_with_concepts(service, call[0], call[2:])


def answer_with_concepts(service, number, concepts):
    if number == LINE:
        return service.line(concepts)
    if number == RULE:
        return service.rule(concepts)
    if number == NORMALLY:
        return service.normally(concepts)
    if number == ALWAYS:
        return service.always(concepts)
    return service.rank(concepts)


def answers(calls):
    service = Service()
    given = []
    at = 0
    while at < len(calls):
        end = call_end(calls, at)
        answer = answer_to(service, calls[at:end])
        given.append(len(answer))
        given.extend(answer)
        at = end
    return given
