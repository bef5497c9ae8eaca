"""The kinds of elements that there are in models.

Elements are of one kind if they have the same atoms, and so the same of all concepts
built of these atoms. A model may be of any size, but there are only finitely many
kinds. A set of kinds is a whole number here, with one bit for each kind.
"""

from exceptranks.concepts import (
    BOTH, EITHER, EVERYTHING, LACKING, NOTHING, TO_ALL, TO_SOME, concept_at, head_places,
)


# A kind's number says which atoms it has: its bit at `place` stands for the atom there.
def kinds_with_atom(amount, place):
    found = 0
    for kind in range(amount):
        if (kind >> place) & 1 == 1:
            found |= 1 << kind
    return found


class Kinds:
    # The atoms are those of all concepts that will be asked about, each once.
    def __init__(self, atoms):
        self.amount = 1 << len(atoms)
        self.every = (1 << self.amount) - 1
        self.columns = {}
        for place, atom in enumerate(atoms):
            self.columns[atom] = kinds_with_atom(self.amount, place)
        self.links = [self.link(atom) for atom in atoms if atom[0] in (TO_SOME, TO_ALL)]

    # A link (role, targets, needing) says that elements of the kinds in `needing` are
    # related to some of a kind in `targets`, and all other elements to none of these.
    # To lack 7 is to have 6 with the negated concept, so one form serves for both.
    def link(self, atom):
        targets = self.having(atom[2:])
        needing = self.columns[atom]
        if atom[0] == TO_ALL:
            targets = self.every ^ targets
            needing = self.every ^ needing
        return (atom[1], targets, needing)

    # From right to left, so that the parts are known when the head ahead of them is met.
    def having(self, concept):
        parts = []
        for at in reversed(head_places(concept)):
            parts.append(self.combined(concept, at, parts))
        return parts[0]

    # Takes what belongs to the head at `at` away from the parts that were met behind it.
    def combined(self, concept, at, parts):
        form = concept[at]
        if form == EVERYTHING:
            return self.every
        if form == NOTHING:
            return 0
        if form == BOTH:
            return parts.pop() & parts.pop()
        if form == EITHER:
            return parts.pop() | parts.pop()
        if form == LACKING:
            return self.every ^ parts.pop()
        if form in (TO_SOME, TO_ALL):
            # The part speaks of related elements; what this one has, the atom's column says.
            parts.pop()
        return self.columns[concept_at(concept, at)]

    # The pairs are axioms or rules: each is satisfied without its first concept or with its second.
    def satisfying(self, pairs):
        kept = self.every
        for first, second in pairs:
            kept &= (self.every ^ self.having(first)) | self.having(second)
        return kept

    # The kinds that are there in some model in which the axioms hold. A kind goes only if
    # no kind that is left can be what its elements must be related to, so it is in no
    # model; and one element of each kind that stays at the end makes up a model.
    def occurring(self, axioms):
        left = self.satisfying(axioms)
        supported = self.supported_by(left)
        while supported != left:
            left = supported
            supported = self.supported_by(left)
        return left

    def supported_by(self, left):
        kept = 0
        for kind in range(self.amount):
            if left & (1 << kind) != 0 and self.finds_all(1 << kind, left):
                kept |= 1 << kind
        return kept

    def finds_all(self, kind_bit, left):
        for role, targets, needing in self.links:
            if kind_bit & needing != 0 and left & targets & self.allowed(kind_bit, role) == 0:
                return False
        return True

    # All that forbids a relation counts at once: one related element must bear it together.
    def allowed(self, kind_bit, role):
        kept = self.every
        for link_role, targets, needing in self.links:
            if link_role == role and kind_bit & needing == 0:
                kept &= self.every ^ targets
        return kept
