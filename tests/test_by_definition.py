"""Many lists of calls, answered a second time straight from the document's definitions.

An element of a model is told here by the set of the atoms that it has. The model
begins with an element for each such set, related to all that this set allows;
elements that don't have what they are told to have are taken away, till none is left
of these. What then remains is a model, and the largest there is.
"""

import itertools
import random
import unittest

from tests.asking import (
    ALL, NONE, A, B, C, D, always, ask, begins, both, drop, either, lacks, line, normally, only, rank, ranks, rule,
    some,
)


class Malformed(Exception):
    pass


def read(numbers):
    """The first concept of the numbers, as nested tuples, and the numbers behind it."""
    if not numbers or numbers[0] > 7:
        raise Malformed
    form, rest = numbers[0], numbers[1:]
    concept = (form,)
    if form in (2, 6, 7):
        if not rest or rest[0] > (3 if form == 2 else 1):
            raise Malformed
        concept, rest = (form, rest[0]), rest[1:]
    for part in range({3: 2, 4: 2, 5: 1, 6: 1, 7: 1}.get(form, 0)):
        inner, rest = read(rest)
        concept += (inner,)
    return concept, rest


def read_exactly(amount, numbers):
    found = []
    for number in range(amount):
        concept, numbers = read(numbers)
        found.append(concept)
    if numbers:
        raise Malformed
    return found


def atoms_of(concept):
    found = {concept} if concept[0] in (2, 6, 7) else set()
    for part in concept[1:]:
        if isinstance(part, tuple):
            found |= atoms_of(part)
    return found


def has(element, concept):
    form = concept[0]
    if form in (0, 1):
        return form == 0
    if form == 3:
        return has(element, concept[1]) and has(element, concept[2])
    if form == 4:
        return has(element, concept[1]) or has(element, concept[2])
    if form == 5:
        return not has(element, concept[1])
    return concept in element


def satisfies(element, pairs):
    return all(not has(element, first) or has(element, second) for first, second in pairs)


def may_be_related(element, other, role, atoms):
    for atom in atoms:
        if atom[0] == 6 and atom[1] == role and atom not in element and has(other, atom[2]):
            return False
        if atom[0] == 7 and atom[1] == role and atom in element and not has(other, atom[2]):
            return False
    return True


def is_as_told(element, model, atoms):
    for atom in atoms:
        if atom[0] in (6, 7):
            near = [other for other in model if may_be_related(element, other, atom[1], atoms)]
            truth = [has(other, atom[2]) for other in near]
            if (any(truth) if atom[0] == 6 else all(truth)) != (atom in element):
                return False
    return True


def largest_model(atoms, axioms):
    sets = [frozenset(chosen) for size in range(len(atoms) + 1) for chosen in itertools.combinations(atoms, size)]
    model = [element for element in sets if satisfies(element, axioms)]
    while True:
        kept = [element for element in model if is_as_told(element, model, atoms)]
        if len(kept) == len(model):
            return model
        model = kept


def is_exceptional(concept, rules, model):
    return not any(has(element, concept) and satisfies(element, rules) for element in model)


def ranks_and_model(atoms, axioms, rules):
    model = largest_model(atoms, axioms)
    ranks = []
    rank = rules
    while rank not in ranks:
        ranks.append(rank)
        rank = [pair for pair in rank if is_exceptional(pair[0], rank, model)]
    if rank:
        added = [(pair[0], (1,)) for pair in rank]
        return ranks_and_model(atoms, axioms + added, [pair for pair in rules if pair not in rank])
    return [rank for rank in ranks if rank], model


class Defined:
    """The service, as the document defines it."""

    def __init__(self):
        self.axioms = []
        self.rules = []

    def answer(self, call):
        if call[0] == 0:
            self.axioms, self.rules = [], []
            return [0]
        if call[0] == 6:
            return self.ranks()
        if call[0] == 7:
            return self.drop(call[1])
        try:
            concepts = read_exactly(1 if call[0] == 5 else 2, tuple(call[2:]))
        except Malformed:
            return [-1]
        if (call[0] == 1 and len(self.axioms) == 3) or (call[0] == 2 and len(self.rules) == 4):
            return [-7]
        if len(self.atoms(concepts)) > 4:
            return [-7]
        if call[0] in (1, 2):
            return self.add(call[0], tuple(concepts))
        return self.question(call[0], concepts)

    def atoms(self, concepts):
        found = set()
        for concept in itertools.chain(concepts, *self.axioms, *self.rules):
            found |= atoms_of(concept)
        return sorted(found, key=repr)

    def add(self, form, pair):
        if form == 2 and pair in self.rules:
            return [-4]
        kept = self.axioms if form == 1 else self.rules
        kept.append(pair)
        return [len(kept) - 1]

    def drop(self, index):
        if index not in range(len(self.rules)):
            return [-2]
        self.rules = [pair for number, pair in enumerate(self.rules) if number != index]
        return [len(self.rules)]

    def ranks(self):
        found, model = ranks_and_model(self.atoms([]), self.axioms, self.rules)
        return [len(found)] + [sum(1 for rules in found if pair in rules) for pair in self.rules]

    def question(self, form, concepts):
        found, model = ranks_and_model(self.atoms(concepts), self.axioms, self.rules)
        place = 0
        while place < len(found) and is_exceptional(concepts[0], found[place], model):
            place += 1
        if form == 5:
            return [place, len(found)]
        if form == 4:
            rules = []
        else:
            rules = (found + [[]])[place]
        normal = [element for element in model if has(element, concepts[0]) and satisfies(element, rules)]
        return [1 if all(has(element, concepts[1]) for element in normal) else 0]


POOLS = [
    [A, B, C, D],
    [A, B, C, some(0, A)],
    [A, B, some(0, A), only(0, B)],
    [A, B, some(0, B), some(1, A)],
    [A, some(0, A), some(0, lacks(A)), some(0, ALL)],
    [A, some(0, A), only(0, some(0, A)), some(1, both(A, some(0, A)))],
    [A, B, some(0, both(A, B)), only(0, either(A, lacks(B)))],
    [A, only(0, NONE), only(0, lacks(only(0, NONE))), only(1, A)],
    [A, B, some(0, A), some(0, B), C],
]


class ByDefinition(unittest.TestCase):
    def concept(self, chance, pool, depth):
        which = chance.random()
        if depth == 0 or which < 0.35:
            return chance.choice(pool + pool + [ALL, NONE])
        if which < 0.6:
            return lacks(self.concept(chance, pool, depth - 1))
        form = both if which < 0.8 else either
        return form(self.concept(chance, pool, depth - 1), self.concept(chance, pool, depth - 1))

    def call(self, chance, pool, form):
        if form in (begins, ranks):
            return form()
        if form == drop:
            return drop(chance.choice([0, 0, 0, 1, 1, 2, 3, 4, 4294967295]))
        while True:
            numbers = self.concept(chance, pool, 2)
            if form != rank:
                numbers += self.concept(chance, pool, 2)
            if chance.random() < 0.04:
                place = chance.randrange(len(numbers) + 1)
                numbers = numbers[:place] + chance.choice([(), (0,), (4,), (9,), (4294967295,)]) + numbers[place + 1:]
            if len(numbers) <= 30:
                return form(numbers)

    def questions(self, chance):
        return [chance.choice([normally, normally, always, rank, ranks]) for number in range(10)]

    def check(self, calls):
        defined = Defined()
        with self.subTest(calls=calls):
            self.assertEqual(ask(*calls), [defined.answer(call) for call in calls])

    def test_random_lists(self):
        chance = random.Random(2026)
        for number in range(600):
            pool = chance.choice(POOLS)
            forms = self.questions(chance) + [rule] * chance.randrange(9) + [line] * chance.randrange(5)
            forms += [begins] * chance.randrange(2) + [drop] * chance.randrange(5)
            chance.shuffle(forms)
            self.check([self.call(chance, pool, form) for form in forms])

    def test_rules_ahead_of_what_is_asked(self):
        chance = random.Random(1)
        for number in range(600):
            pool = chance.choice(POOLS)
            forms = [line] * chance.randrange(3) + [rule] * chance.randrange(2, 5) + self.questions(chance)
            self.check([self.call(chance, pool, form) for form in forms])

    def test_rules_dropped_ahead_of_what_is_asked(self):
        chance = random.Random(7)
        for number in range(300):
            pool = chance.choice(POOLS)
            forms = [line] * chance.randrange(3) + [rule] * 4 + [ranks, drop] + self.questions(chance)[:4]
            forms += [rule, ranks, drop] + self.questions(chance)[:4]
            self.check([self.call(chance, pool, form) for form in forms])


if __name__ == "__main__":
    unittest.main()
