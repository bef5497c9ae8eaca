"""Helper of the tests: writes calls by their names, and parts the answers again."""

from exceptranks.defaults import answers

ALL = (0,)
NONE = (1,)


def name(number):
    return (2, number)


def both(first, second):
    return (3,) + first + second


def either(first, second):
    return (4,) + first + second


def lacks(concept):
    return (5,) + concept


def some(role, concept):
    return (6, role) + concept


def only(role, concept):
    return (7, role) + concept


A, B, C, D = name(0), name(1), name(2), name(3)


def row(parts):
    """The numbers of concepts and of single numbers, one behind another."""
    numbers = []
    for part in parts:
        numbers.extend(part if isinstance(part, tuple) else (part,))
    return [len(numbers)] + numbers


def begins():
    return [0]


def line(*parts):
    return [1] + row(parts)


def rule(*parts):
    return [2] + row(parts)


def normally(*parts):
    return [3] + row(parts)


def always(*parts):
    return [4] + row(parts)


def rank(*parts):
    return [5] + row(parts)


def ranks():
    return [6]


def drop(index):
    return [7, index]


def ask(*calls):
    """The answers to the calls, each as a list of its numbers."""
    given = answers([number for call in calls for number in call])
    parted = []
    at = 0
    while at < len(given):
        parted.append(given[at + 1:at + 1 + given[at]])
        at += 1 + given[at]
    return parted


def last(*calls):
    """The first number of the last answer."""
    return ask(*calls)[-1][0]


def firsts(*calls):
    """The first number of each answer."""
    return [answer[0] for answer in ask(*calls)]


def holds(state, first, second):
    """Whether, after the calls of the state, the second normally holds for the first."""
    return last(*state, normally(first, second))
