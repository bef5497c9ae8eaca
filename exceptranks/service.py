"""The service: its axioms and rules, and its operations.

An operation gives back the numbers of its answer; an error is one number below 0.
Each operation looks for all errors, in the document's order, before it changes anything.
"""

from exceptranks.concepts import atoms_in, one_concept, two_concepts
from exceptranks.kinds import Kinds
from exceptranks.ranking import Ranking

MOST_AXIOMS = 3
MOST_RULES = 4
MOST_ATOMS = 4


class Service:
    def __init__(self):
        self.axioms = []
        self.rules = []

    def begins(self):
        self.axioms = []
        self.rules = []
        return [0]

    def line(self, numbers):
        pair = two_concepts(numbers)
        if pair is None:
            return [-1]
        if len(self.axioms) == MOST_AXIOMS or self.has_too_many_atoms(pair):
            return [-7]
        self.axioms.append(pair)
        return [len(self.axioms) - 1]

    def rule(self, numbers):
        pair = two_concepts(numbers)
        if pair is None:
            return [-1]
        if len(self.rules) == MOST_RULES or self.has_too_many_atoms(pair):
            return [-7]
        if pair in self.rules:
            return [-4]
        self.rules.append(pair)
        return [len(self.rules) - 1]

    def normally(self, numbers):
        pair = two_concepts(numbers)
        if pair is None:
            return [-1]
        if self.has_too_many_atoms(pair):
            return [-7]
        return [1 if self.ranking_with(pair).normally_holds(pair[0], pair[1]) else 0]

    def always(self, numbers):
        pair = two_concepts(numbers)
        if pair is None:
            return [-1]
        if self.has_too_many_atoms(pair):
            return [-7]
        return [1 if self.ranking_with(pair).always_holds(pair[0], pair[1]) else 0]

    def rank(self, numbers):
        concept = one_concept(numbers)
        if concept is None:
            return [-1]
        if self.has_too_many_atoms((concept,)):
            return [-7]
        ranking = self.ranking_with((concept,))
        return [ranking.rank_of(concept), len(ranking.levels)]

    def ranks(self):
        ranking = self.ranking_with(())
        return [len(ranking.levels)] + [ranking.ranks_with(rule) for rule in self.rules]

    def drop(self, index):
        if index >= len(self.rules):
            return [-2]
        self.rules.pop(index)
        return [len(self.rules)]

    def atoms_with(self, concepts):
        return atoms_in(self.axioms + self.rules + [concepts])

    def has_too_many_atoms(self, concepts):
        return len(self.atoms_with(concepts)) > MOST_ATOMS

    # The ranks don't depend on what is asked, but its atoms are needed to ask it.
    def ranking_with(self, concepts):
        return Ranking(Kinds(self.atoms_with(concepts)), self.axioms, self.rules)
