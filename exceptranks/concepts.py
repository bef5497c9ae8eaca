"""Concepts in prefix notation, kept as tuples of their numbers.

As tuples, two concepts are equal just when they are written alike. That is what
is asked for where atoms are counted and where an equal rule is looked for.
A concept's head is its first number and, with some forms, the name or role behind
it; what follows are its parts, which are concepts again.
"""

EVERYTHING = 0
NOTHING = 1
NAME = 2
BOTH = 3
EITHER = 4
LACKING = 5
TO_SOME = 6
TO_ALL = 7

# By form: how many parts a concept has.
PARTS = (0, 0, 0, 2, 2, 1, 1, 1)

# By form: from how many names or roles the head chooses, 0 where it has none.
CHOICES = (0, 0, 4, 0, 0, 0, 2, 2)


def is_head(numbers, at):
    if at >= len(numbers) or numbers[at] >= len(PARTS):
        return False
    choices = CHOICES[numbers[at]]
    if choices == 0:
        return True
    return at + 1 < len(numbers) and numbers[at + 1] < choices


def head_length(form):
    return 2 if CHOICES[form] > 0 else 1


# The place behind the concept that begins at `start`, None if none begins there.
def concept_end(numbers, start):
    at = start
    missing = 1
    while missing > 0:
        if not is_head(numbers, at):
            return None
        missing += PARTS[numbers[at]] - 1
        at += head_length(numbers[at])
    return at


# None if the numbers are not exactly one concept.
def one_concept(numbers):
    if concept_end(numbers, 0) != len(numbers):
        return None
    return tuple(numbers)


# None if the numbers are not exactly two concepts.
def two_concepts(numbers):
    middle = concept_end(numbers, 0)
    if middle is None or concept_end(numbers, middle) != len(numbers):
        return None
    return (tuple(numbers[:middle]), tuple(numbers[middle:]))


def head_places(concept):
    places = []
    at = 0
    while at < len(concept):
        places.append(at)
        at += head_length(concept[at])
    return places


def concept_at(concept, at):
    return concept[at:concept_end(concept, at)]


# A group is a tuple of concepts: an axiom, a rule, or what is asked about.
def atoms_in(groups):
    # As keys, equal atoms are counted once.
    found = {}
    for group in groups:
        for concept in group:
            for at in head_places(concept):
                if concept[at] in (NAME, TO_SOME, TO_ALL):
                    found[concept_at(concept, at)] = True
    return list(found)
