"""Many lists of calls, answered a second time straight from the document's definitions.

An element of a model is told here by the set of the atoms that it has. The model
begins with an element for each such set, related to all that this set allows;
elements that don't have what they are told to have are taken away, till none is left
of these. What then remains is a model, and the largest there is.
"""

import itertools
import random
import unittest

from tests.asking import (
    ALL, NONE, A, B, C, D, ask, begins, both, either, lacks, line, normally, only, rule, some,
)


class Malformed(Exception):
    pass


def read(numbers):
    """The first concept of the numbers, as nested tuples, and the numbers behind it."""
    if not numbers or numbers[0] > 7:
        raise Malformed
    form, rest = numbers[0], numbers[1:]
    concept = (form,)
    if form in (2, 6, 7):
        if not rest or rest[0] > (3 if form == 2 else 1):
            raise Malformed
        concept, rest = (form, rest[0]), rest[1:]
    for part in range({3: 2, 4: 2, 5: 1, 6: 1, 7: 1}.get(form, 0)):
        inner, rest = read(rest)
        concept += (inner,)
    return concept, rest


def read_two(numbers):
    first, rest = read(numbers)
    second, rest = read(rest)
    if rest:
        raise Malformed
    return first, second


def atoms_of(concept):
    found = {concept} if concept[0] in (2, 6, 7) else set()
    for part in concept[1:]:
        if isinstance(part, tuple):
            found |= atoms_of(part)
    return found


def has(element, concept):
    form = concept[0]
    if form in (0, 1):
        return form == 0
    if form == 3:
        return has(element, concept[1]) and has(element, concept[2])
    if form == 4:
        return has(element, concept[1]) or has(element, concept[2])
    if form == 5:
        return not has(element, concept[1])
    return concept in element


def satisfies(element, pairs):
    return all(not has(element, first) or has(element, second) for first, second in pairs)


def may_be_related(element, other, role, atoms):
    for atom in atoms:
        if atom[0] == 6 and atom[1] == role and atom not in element and has(other, atom[2]):
            return False
        if atom[0] == 7 and atom[1] == role and atom in element and not has(other, atom[2]):
            return False
    return True


def is_as_told(element, model, atoms):
    for atom in atoms:
        if atom[0] in (6, 7):
            near = [other for other in model if may_be_related(element, other, atom[1], atoms)]
            truth = [has(other, atom[2]) for other in near]
            if (any(truth) if atom[0] == 6 else all(truth)) != (atom in element):
                return False
    return True


def largest_model(atoms, axioms):
    sets = [frozenset(chosen) for size in range(len(atoms) + 1) for chosen in itertools.combinations(atoms, size)]
    model = [element for element in sets if satisfies(element, axioms)]
    while True:
        kept = [element for element in model if is_as_told(element, model, atoms)]
        if len(kept) == len(model):
            return model
        model = kept


def is_exceptional(concept, rules, model):
    return not any(has(element, concept) and satisfies(element, rules) for element in model)


def ranks_and_model(atoms, axioms, rules):
    model = largest_model(atoms, axioms)
    ranks = []
    rank = rules
    while rank not in ranks:
        ranks.append(rank)
        rank = [pair for pair in rank if is_exceptional(pair[0], rank, model)]
    if rank:
        added = [(pair[0], (1,)) for pair in rank]
        return ranks_and_model(atoms, axioms + added, [pair for pair in rules if pair not in rank])
    return [rank for rank in ranks if rank], model


class Defined:
    """The service, as the document defines it."""

    def __init__(self):
        self.axioms = []
        self.rules = []

    def answer(self, call):
        if call == [0]:
            self.axioms, self.rules = [], []
            return 0
        try:
            pair = read_two(tuple(call[2:]))
        except Malformed:
            return -1
        full = (call[0] == 1 and len(self.axioms) == 3) or (call[0] == 2 and len(self.rules) == 4)
        atoms = set()
        for concept in itertools.chain(pair, *self.axioms, *self.rules):
            atoms |= atoms_of(concept)
        if full or len(atoms) > 4:
            return -7
        if call[0] == 3:
            return self.normally(sorted(atoms, key=repr), pair)
        if call[0] == 2 and pair in self.rules:
            return -4
        kept = self.axioms if call[0] == 1 else self.rules
        kept.append(pair)
        return len(kept) - 1

    def normally(self, atoms, pair):
        ranks, model = ranks_and_model(atoms, self.axioms, self.rules)
        for rules in ranks + [[]]:
            if not is_exceptional(pair[0], rules, model):
                break
        found = all(has(element, pair[1]) for element in model if has(element, pair[0]) and satisfies(element, rules))
        return 1 if found else 0


POOLS = [
    [A, B, C, D],
    [A, B, C, some(0, A)],
    [A, B, some(0, A), only(0, B)],
    [A, B, some(0, B), some(1, A)],
    [A, some(0, A), some(0, lacks(A)), some(0, ALL)],
    [A, some(0, A), only(0, some(0, A)), some(1, both(A, some(0, A)))],
    [A, B, some(0, both(A, B)), only(0, either(A, lacks(B)))],
    [A, only(0, NONE), only(0, lacks(only(0, NONE))), only(1, A)],
    [A, B, some(0, A), some(0, B), C],
]


class ByDefinition(unittest.TestCase):
    def concept(self, chance, pool, depth):
        which = chance.random()
        if depth == 0 or which < 0.35:
            return chance.choice(pool + pool + [ALL, NONE])
        if which < 0.6:
            return lacks(self.concept(chance, pool, depth - 1))
        form = both if which < 0.8 else either
        return form(self.concept(chance, pool, depth - 1), self.concept(chance, pool, depth - 1))

    def call(self, chance, pool, form):
        while True:
            numbers = self.concept(chance, pool, 2) + self.concept(chance, pool, 2)
            if chance.random() < 0.04:
                place = chance.randrange(len(numbers) + 1)
                numbers = numbers[:place] + chance.choice([(), (0,), (4,), (9,), (4294967295,)]) + numbers[place + 1:]
            if len(numbers) <= 30:
                return form(numbers)

    def calls(self, chance):
        pool = chance.choice(POOLS)
        forms = [normally] * 10 + [rule] * chance.randrange(9) + [line] * chance.randrange(5)
        forms += [begins] * chance.randrange(2)
        chance.shuffle(forms)
        return [begins() if form == begins else self.call(chance, pool, form) for form in forms]

    def test_random_lists(self):
        chance = random.Random(2026)
        for number in range(600):
            calls = self.calls(chance)
            defined = Defined()
            with self.subTest(number=number, calls=calls):
                self.assertEqual(ask(*calls), [[defined.answer(call)] for call in calls])

    def test_rules_ahead_of_what_is_asked(self):
        chance = random.Random(1)
        for number in range(600):
            pool = chance.choice(POOLS)
            calls = [self.call(chance, pool, line) for time in range(chance.randrange(3))]
            calls += [self.call(chance, pool, rule) for time in range(chance.randrange(2, 5))]
            calls += [self.call(chance, pool, normally) for time in range(10)]
            defined = Defined()
            with self.subTest(number=number, calls=calls):
                self.assertEqual(ask(*calls), [[defined.answer(call)] for call in calls])


if __name__ == "__main__":
    unittest.main()
