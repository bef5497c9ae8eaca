"""The eight forms of a concept, models, axioms and subsumption.

Without rules a concept normally holds for another one just when it subsumes it,
so these tests ask `normally` and add no rules, but where a test says so.
"""

import itertools
import unittest

from tests.asking import (
    ALL, NONE, A, B, C, D, both, either, holds, lacks, line, name, normally, last, only, rule, some,
)


class Table(unittest.TestCase):
    def check(self, state, table):
        for first, second, expected in table:
            with self.subTest(first=first, second=second):
                self.assertEqual(holds(state, first, second), expected)


class BooleanForms(Table):
    def test_all_and_no_elements(self):
        self.check([], [
            (ALL, ALL, 1), (NONE, NONE, 1), (NONE, ALL, 1), (ALL, NONE, 0),
            (A, ALL, 1), (ALL, A, 0), (NONE, A, 1), (A, NONE, 0),
        ])

    def test_each_name_is_its_own(self):
        for first, second in itertools.product(range(4), repeat=2):
            expected = 1 if first == second else 0
            with self.subTest(first=first, second=second):
                self.assertEqual(holds([], name(first), name(second)), expected)

    def test_conjunction(self):
        self.check([], [
            (both(A, B), A, 1), (both(A, B), B, 1), (A, both(A, B), 0), (B, both(A, B), 0),
            (both(A, B), both(B, A), 1), (A, both(A, A), 1), (A, both(A, ALL), 1),
            (both(A, NONE), NONE, 1), (both(A, B), C, 0), (both(A, B), NONE, 0),
        ])

    def test_disjunction(self):
        self.check([], [
            (A, either(A, B), 1), (B, either(A, B), 1), (either(A, B), A, 0), (either(A, B), B, 0),
            (either(A, B), either(B, A), 1), (either(A, A), A, 1), (either(A, NONE), A, 1),
            (ALL, either(A, ALL), 1), (either(A, B), both(A, B), 0), (C, either(A, B), 0),
        ])

    def test_negation(self):
        self.check([], [
            (A, lacks(A), 0), (lacks(A), A, 0), (lacks(lacks(A)), A, 1), (A, lacks(lacks(A)), 1),
            (both(A, lacks(A)), NONE, 1), (ALL, either(A, lacks(A)), 1), (lacks(NONE), ALL, 1),
            (lacks(ALL), NONE, 1), (ALL, lacks(NONE), 1), (lacks(A), ALL, 1), (lacks(A), NONE, 0),
            (lacks(both(A, B)), either(lacks(A), lacks(B)), 1),
            (lacks(either(A, B)), both(lacks(A), lacks(B)), 1),
            (lacks(both(A, B)), lacks(A), 0),
        ])

    def test_parts_may_be_nested(self):
        self.check([], [
            (both(A, either(B, C)), either(both(A, B), both(A, C)), 1),
            (either(both(A, B), C), both(A, either(B, C)), 0),
            (either(A, both(B, C)), both(either(A, B), either(A, C)), 1),
            (both(either(A, B), lacks(A)), B, 1),
            (both(both(A, B), both(C, D)), D, 1),
            (both(A, both(B, C)), both(both(A, B), C), 1),
        ])

    def test_as_many_numbers_as_may_be(self):
        self.assertEqual(last(normally((5,) * 28, 0, 0)), 1)
        self.assertEqual(last(normally((5,) * 28, 0, 1)), 0)
        self.assertEqual(last(normally((5,) * 27, 0, 1)), 1)
        self.assertEqual(last(normally(0, (5,) * 27, 0)), 0)
        self.assertEqual(last(normally(0, (5,) * 28, 0)), 1)
        self.assertEqual(last(normally((3,) * 13, (0,) * 14, 2, 0)), 0)
        self.assertEqual(last(normally((4,) * 13, (1,) * 14, 2, 0)), 1)


class Roles(Table):
    def test_related_to_some(self):
        self.check([], [
            (some(0, A), some(0, ALL), 1), (some(0, ALL), some(0, A), 0), (some(0, NONE), NONE, 1),
            (ALL, some(0, ALL), 0), (some(0, both(A, B)), some(0, A), 1),
            (both(some(0, ALL), lacks(some(0, A))), some(0, lacks(A)), 1),
            (some(0, either(A, B)), some(0, A), 0), (some(0, B), some(0, either(A, B)), 1),
            (A, some(0, A), 0), (some(0, A), A, 0), (some(0, A), NONE, 0),
            (some(0, some(0, A)), some(0, A), 0), (some(0, A), some(0, some(0, A)), 0),
            (some(0, some(0, A)), some(0, ALL), 1), (some(0, ALL), some(0, some(0, ALL)), 0),
        ])

    def test_related_only_to(self):
        self.check([], [
            (ALL, only(0, ALL), 1), (only(0, NONE), only(0, A), 1), (only(0, A), only(0, NONE), 0),
            (only(0, A), some(0, A), 0), (only(0, A), some(0, ALL), 0), (only(0, NONE), NONE, 0),
            (both(only(0, A), some(0, ALL)), some(0, A), 1),
            (only(0, both(A, B)), only(0, A), 1), (only(0, A), only(0, both(A, B)), 0),
            (only(0, A), only(0, either(A, B)), 1), (only(0, either(A, B)), only(0, A), 0),
            (only(0, A), A, 0), (A, only(0, A), 0), (only(0, A), NONE, 0),
        ])

    def test_that_all_have_both_is_that_all_have_each(self):
        self.check([], [
            (both(only(0, A), only(0, lacks(A))), only(0, NONE), 1),
            (only(0, NONE), both(only(0, A), only(0, lacks(A))), 1),
        ])

    def test_some_and_only_tell_each_other(self):
        self.check([], [
            (only(0, A), lacks(some(0, lacks(A))), 1), (lacks(some(0, lacks(A))), only(0, A), 1),
            (some(0, A), lacks(only(0, lacks(A))), 1), (lacks(only(0, lacks(A))), some(0, A), 1),
            (some(0, A), only(0, lacks(A)), 0), (only(0, NONE), lacks(some(0, ALL)), 1),
        ])

    def test_roles_are_apart(self):
        self.check([], [
            (some(0, A), some(1, A), 0), (some(1, A), some(0, A), 0), (only(0, A), only(1, A), 0),
            (only(1, A), only(0, A), 0), (some(1, A), some(1, ALL), 1), (only(1, NONE), only(1, A), 1),
            (both(some(0, A), only(1, lacks(A))), NONE, 0),
            (both(some(1, A), only(0, lacks(A))), NONE, 0),
            (both(some(0, A), only(0, lacks(A))), NONE, 1),
            (both(some(1, A), only(1, lacks(A))), NONE, 1),
            (some(0, both(some(1, A), only(1, lacks(A)))), NONE, 1),
            (some(0, some(1, A)), some(1, ALL), 0), (some(0, some(1, A)), some(0, ALL), 1),
        ])

    def test_several_elements_may_be_related(self):
        self.check([], [
            (both(some(0, A), some(0, lacks(A))), NONE, 0),
            (some(0, A), only(0, A), 0), (some(0, A), some(0, lacks(A)), 0),
            (both(some(1, A), some(1, lacks(A))), NONE, 0),
        ])

    def test_what_all_must_have_adds_up(self):
        together = both(only(0, A), only(0, lacks(A)))
        self.check([], [
            (together, NONE, 0), (both(together, some(0, ALL)), NONE, 1),
            (both(only(0, A), only(1, lacks(A))), NONE, 0),
            (both(both(only(0, A), only(1, lacks(A))), some(0, ALL)), NONE, 0),
            (both(both(only(0, A), lacks(some(0, A))), some(0, ALL)), NONE, 1),
        ])

    def test_relations_go_in_one_direction(self):
        # Were a relation to go back as well, what is related to A would bear what A asks.
        self.check([line(A, only(0, B))], [(both(some(0, A), lacks(B)), NONE, 0)])
        self.check([], [(both(A, some(0, only(0, lacks(A)))), NONE, 0)])


class Axioms(Table):
    def test_an_axiom_holds_in_its_direction(self):
        self.check([line(A, B)], [
            (A, B, 1), (B, A, 0), (lacks(B), lacks(A), 1), (lacks(A), lacks(B), 0),
            (both(A, C), B, 1), (A, C, 0),
        ])

    def test_axioms_go_together(self):
        self.check([line(A, B), line(B, C), line(C, D)], [
            (A, D, 1), (A, C, 1), (B, D, 1), (D, A, 0), (C, A, 0), (either(A, C), D, 1),
        ])
        self.check([line(A, B), line(A, lacks(B))], [(A, NONE, 1), (A, C, 1), (B, NONE, 0)])

    def test_axioms_of_each_form(self):
        self.check([line(ALL, A)], [(ALL, A, 1), (B, A, 1), (lacks(A), NONE, 1), (A, B, 0)])
        self.check([line(A, NONE)], [(A, NONE, 1), (A, B, 1), (B, lacks(A), 1), (B, NONE, 0)])
        self.check([line(ALL, NONE)], [(ALL, NONE, 1), (A, B, 1)])
        self.check([line(NONE, A), line(A, ALL)], [(A, B, 0), (B, A, 0), (ALL, A, 0)])
        self.check([line(both(A, B), C)], [(both(B, A), C, 1), (A, C, 0), (B, C, 0)])
        self.check([line(A, both(B, C))], [(A, B, 1), (A, C, 1), (B, A, 0)])
        self.check([line(either(A, B), C)], [(A, C, 1), (B, C, 1), (C, either(A, B), 0)])
        self.check([line(A, either(B, C))], [(both(A, lacks(B)), C, 1), (A, B, 0), (A, C, 0)])
        self.check([line(lacks(A), B)], [(ALL, either(A, B), 1), (lacks(B), A, 1), (A, B, 0)])
        self.check([line(A, lacks(B))], [(both(A, B), NONE, 1), (B, lacks(A), 1), (lacks(B), A, 0)])

    def test_an_axiom_holds_for_related_elements_too(self):
        self.check([line(A, B)], [(some(0, A), some(0, B), 1), (some(0, B), some(0, A), 0)])
        self.check([line(A, B)], [(only(0, A), only(0, B), 1), (only(0, B), only(0, A), 0)])
        self.check([line(A, NONE)], [(some(0, A), NONE, 1), (some(1, A), NONE, 1), (only(0, A), NONE, 0)])
        self.check([line(A, NONE)], [(some(0, some(1, A)), NONE, 1), (ALL, only(0, lacks(A)), 1)])

    def test_axioms_over_roles(self):
        self.check([line(some(0, A), B)], [(some(0, A), B, 1), (lacks(B), only(0, lacks(A)), 1), (A, B, 0)])
        self.check([line(A, some(0, B))], [(A, some(0, ALL), 1), (both(A, only(0, lacks(B))), NONE, 1)])
        self.check([line(A, some(1, B))], [(A, some(1, ALL), 1), (A, some(0, ALL), 0)])
        self.check([line(only(0, A), B)], [(only(0, NONE), B, 1), (lacks(B), some(0, lacks(A)), 1)])
        self.check([line(A, only(0, B))], [(both(A, some(0, lacks(B))), NONE, 1), (A, some(0, ALL), 0)])
        self.check([line(A, only(1, NONE))], [(both(A, some(1, ALL)), NONE, 1), (A, only(0, NONE), 0)])

    def test_axioms_that_go_round(self):
        self.check([line(A, some(0, A))], [(A, some(0, some(0, A)), 1), (A, NONE, 0)])
        self.check([line(ALL, some(0, ALL))], [(only(0, NONE), NONE, 1), (ALL, NONE, 0)])
        self.check([line(A, some(0, lacks(A))), line(lacks(A), some(0, A))], [(ALL, NONE, 0), (A, NONE, 0)])
        self.check([line(A, only(0, A))], [(both(A, some(0, some(0, lacks(A)))), NONE, 1)])


class Models(Table):
    def test_what_cannot_be_reaches_over_several_relations(self):
        dead = line(A, NONE)
        self.check([dead], [(some(0, some(0, some(0, A))), NONE, 1), (some(0, some(1, some(0, A))), NONE, 1)])
        self.check([line(ALL, some(0, ALL))], [(some(0, some(1, only(0, NONE))), NONE, 1)])
        self.check([line(A, some(0, B)), line(B, some(1, NONE))], [(A, NONE, 1), (B, NONE, 1)])
        self.check([line(A, some(0, B)), line(B, both(A, only(0, NONE)))], [(A, NONE, 1)])

    def test_a_concept_that_needs_four_elements(self):
        end = only(0, NONE)
        near = some(0, end)
        far = some(0, near)
        chain = both(both(some(0, far), lacks(far)), lacks(near))
        self.check([], [(chain, NONE, 0), (both(some(0, some(0, near)), lacks(far)), near, 0)])

    def test_a_concept_that_needs_five_elements(self):
        near = some(0, A)
        far = only(0, near)
        beyond = some(0, far)
        state = [
            line(beyond, either(far, A)), line(lacks(beyond), near), line(both(lacks(far), A), lacks(near)),
        ]
        self.check(state, [(lacks(beyond), NONE, 0), (ALL, beyond, 0)])

    def test_all_models_of_up_to_three_elements(self):
        """Of one name and one role: they are as many as these concepts need to be told apart."""
        concepts = [
            A, lacks(A), some(0, A), only(0, A), some(0, ALL), only(0, NONE), some(0, lacks(A)),
            some(0, some(0, A)), only(0, some(0, A)), both(A, some(0, A)), either(A, only(0, A)),
        ]
        axioms = [None, (A, some(0, A)), (some(0, A), A), (only(0, A), A), (lacks(A), some(0, A))]
        extents = [extents_in(model, concepts) for model in models()]
        for axiom in axioms:
            state = [] if axiom is None else [line(*axiom)]
            kept = extents if axiom is None else [
                extent for extent in extents if extent[axiom[0]] <= extent[axiom[1]]
            ]
            for first, second in itertools.product(concepts, repeat=2):
                with self.subTest(axiom=axiom, first=first, second=second):
                    answer = holds(state, first, second)
                    if answer != -7:
                        subsumed = all(extent[first] <= extent[second] for extent in kept)
                        self.assertEqual(answer, 1 if subsumed else 0)


def models():
    for size in (1, 2, 3):
        places = range(size)
        pairs = list(itertools.product(places, repeat=2))
        for named in itertools.product((False, True), repeat=size):
            for related in itertools.product((False, True), repeat=len(pairs)):
                yield (
                    frozenset(place for place in places if named[place]),
                    [[to for to in places if related[place * size + to]] for place in places],
                )


def extents_in(model, concepts):
    found = {}
    for concept in concepts:
        found[concept] = extent(concept, model[0], model[1])[0]
    return found


def extent(concept, named, related):
    """The elements of a model that have the concept, and what stands behind the concept."""
    places = frozenset(range(len(related)))
    form, rest = concept[0], concept[1:]
    if form in (0, 1):
        return (places if form == 0 else frozenset()), rest
    if form == 2:
        return named, rest[1:]
    if form == 5:
        part, rest = extent(rest, named, related)
        return places - part, rest
    if form in (3, 4):
        first, rest = extent(rest, named, related)
        second, rest = extent(rest, named, related)
        return (first & second if form == 3 else first | second), rest
    part, rest = extent(rest[1:], named, related)
    if form == 6:
        return frozenset(place for place in places if any(to in part for to in related[place])), rest
    return frozenset(place for place in places if all(to in part for to in related[place])), rest


class RulesOverRoles(Table):
    def test_rules_of_both_forms(self):
        self.check([rule(some(0, A), B)], [(some(0, A), B, 1), (A, B, 0), (some(1, A), B, 0)])
        self.check([rule(A, some(0, B))], [(A, some(0, B), 1), (A, some(0, ALL), 1), (A, some(1, B), 0)])
        self.check([rule(only(0, A), B)], [(only(0, A), B, 1), (some(0, A), B, 0)])
        self.check([rule(A, only(1, B))], [(A, only(1, B), 1), (A, only(0, B), 0)])

    def test_rules_do_not_speak_of_related_elements(self):
        self.check([rule(A, B)], [(some(0, A), some(0, B), 0), (some(0, A), some(0, both(A, B)), 0)])
        self.check([rule(ALL, A)], [(ALL, A, 1), (ALL, only(0, A), 0), (some(0, lacks(A)), A, 1)])


if __name__ == "__main__":
    unittest.main()
