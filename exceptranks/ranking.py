"""The ranks of rules, and what normally and always holds by them."""

from exceptranks.concepts import NOTHING


def exceptional_rules(kinds, possible, rules):
    normal = possible & kinds.satisfying(rules)
    return [rule for rule in rules if normal & kinds.having(rule[0]) == 0]


# All rules, then those of them that are exceptional, and so on till no rule is removed.
def narrowed(kinds, possible, rules):
    levels = [rules]
    exceptional = exceptional_rules(kinds, possible, rules)
    while len(exceptional) < len(levels[-1]):
        levels.append(exceptional)
        exceptional = exceptional_rules(kinds, possible, exceptional)
    return levels


class Ranking:
    def __init__(self, kinds, axioms, rules):
        self.kinds = kinds
        self.possible = kinds.occurring(axioms)
        levels = narrowed(kinds, self.possible, rules)
        while len(levels[-1]) > 0:
            endless = levels[-1]
            # New lists, for the axioms and rules of the service are not to change.
            axioms = axioms + [(rule[0], (NOTHING,)) for rule in endless]
            rules = [rule for rule in rules if rule not in endless]
            self.possible = kinds.occurring(axioms)
            levels = narrowed(kinds, self.possible, rules)
        # The last level is empty, so it is none of the ranks.
        self.levels = levels[:-1]

    # 0 for a rule that was removed because it is in a last rank that is not empty.
    def ranks_with(self, rule):
        return len([rules for rules in self.levels if rule in rules])

    def rank_of(self, concept):
        found = self.possible & self.kinds.having(concept)
        for place, rules in enumerate(self.levels):
            if found & self.kinds.satisfying(rules) != 0:
                return place
        return len(self.levels)

    def normally_holds(self, first, second):
        place = self.rank_of(first)
        rules = self.levels[place] if place < len(self.levels) else []
        normal = self.possible & self.kinds.having(first) & self.kinds.satisfying(rules)
        return self.all_have(normal, second)

    def always_holds(self, first, second):
        return self.all_have(self.possible & self.kinds.having(first), second)

    def all_have(self, found, concept):
        return found & (self.kinds.every ^ self.kinds.having(concept)) == 0
