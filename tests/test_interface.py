"""The interface: calls one behind another in, numbers out, nothing changed and nothing kept."""

import inspect
import unittest

import exceptranks.defaults
from exceptranks.defaults import UnknownCall, answers
from tests.asking import (
    ALL, NONE, A, B, C, D, always, ask, begins, both, drop, firsts, lacks, line, normally, rank, ranks, rule, some,
)


class Guarded(list):
    """A list that can't be changed."""

    def refuse(self, *arguments, **named):
        raise AssertionError("what was handed in is changed")

    append = clear = extend = insert = pop = remove = reverse = sort = refuse
    __setitem__ = __delitem__ = __iadd__ = __imul__ = refuse


def joined(*calls):
    return [number for call in calls for number in call]


SOME_CALLS = joined(
    line(B, A), rule(A, C), rule(B, lacks(C)), rule(A, C), rule(A), line(A, some(0, D)), normally(A, C), normally(B, C),
    normally(D, some(1, D)), rank(B), ranks(), always(B, A), always(A, C), drop(2), drop(0), ranks(), rank(both(B, C)),
    begins(), normally(A, C), line(ALL, NONE), normally(A, C), rule(A, C), normally(), rank(), ranks(),
)
THEIR_ANSWERS = [
    1, 0, 1, 0, 1, 1, 1, -4, 1, -1, 1, -7, 1, 1, 1, 0,
    1, -7, 2, 1, 2, 3, 2, 1, 2, 1, 1, 1, 0, 1, -2, 1, 1, 2, 1, 1, 2, 1, 1,
    1, 0, 1, 0, 1, 0, 1, 1, 1, 0, 1, -1, 1, -1, 2, 0, 0,
]


class Interface(unittest.TestCase):
    def test_answers_take_one_list(self):
        parameters = inspect.signature(exceptranks.defaults.answers).parameters
        self.assertEqual(list(parameters), ["calls"])
        self.assertEqual(answers(calls=[0]), [1, 0])

    def test_how_many_numbers_then_the_numbers(self):
        self.assertEqual(answers(SOME_CALLS), THEIR_ANSWERS)

    def test_one_call(self):
        self.assertEqual(answers([0]), [1, 0])
        self.assertEqual(answers([1, 2, 0, 1]), [1, 0])
        self.assertEqual(answers([2, 2, 0, 1]), [1, 0])
        self.assertEqual(answers([3, 2, 0, 1]), [1, 0])
        self.assertEqual(answers([3, 2, 1, 0]), [1, 1])
        self.assertEqual(answers([1, 0]), [1, -1])
        self.assertEqual(answers([2, 0]), [1, -1])
        self.assertEqual(answers([3, 0]), [1, -1])
        self.assertEqual(answers([4, 2, 0, 1]), [1, 0])
        self.assertEqual(answers([4, 2, 1, 0]), [1, 1])
        self.assertEqual(answers([4, 0]), [1, -1])
        self.assertEqual(answers([5, 1, 0]), [2, 0, 0])
        self.assertEqual(answers([5, 2, 2, 0]), [2, 0, 0])
        self.assertEqual(answers([5, 0]), [1, -1])
        self.assertEqual(answers([6]), [1, 0])
        self.assertEqual(answers([7, 0]), [1, -2])
        self.assertEqual(answers([7, 4294967295]), [1, -2])

    def test_ranks_has_nothing_behind_it(self):
        self.assertEqual(answers([6, 6, 0, 6]), [1, 0, 1, 0, 1, 0, 1, 0])
        self.assertEqual(answers([2, 2, 0, 1, 6, 0, 6]), [1, 0, 2, 0, 0, 1, 0, 1, 0])
        self.assertEqual(answers([6, 7, 0, 6]), [1, 0, 1, -2, 1, 0])

    def test_drop_has_one_number_without_a_length(self):
        self.assertEqual(answers([7, 0, 0]), [1, -2, 1, 0])
        self.assertEqual(answers([7, 6, 6]), [1, -2, 1, 0])
        self.assertEqual(answers([7, 7, 7, 7]), [1, -2, 1, -2])
        rules = [2, 2, 0, 0, 2, 2, 1, 0, 2, 2, 1, 1]
        self.assertEqual(answers(rules + [7, 1, 6, 7, 2, 7, 1, 6]), [
            1, 0, 1, 1, 1, 2, 1, 2, 3, 1, 1, 0, 1, -2, 1, 1, 2, 1, 1,
        ])

    def test_how_many_numbers_ranks_answers(self):
        rules = [rule(A, B), rule(A, lacks(B)), rule(C, D), rule(both(C, A), D)]
        for amount in range(5):
            given = answers(joined(*rules[:amount], ranks()))
            self.assertEqual(given[2 * amount], amount + 1)
            self.assertEqual(len(given), 2 * amount + amount + 2)

    def test_numbers_of_a_row_are_no_calls(self):
        # A row of no numbers, and rows whose numbers could be calls of their own.
        self.assertEqual(answers([3, 0, 0]), [1, -1, 1, 0])
        self.assertEqual(answers([1, 3, 0, 0, 0, 0]), [1, -1, 1, 0])
        self.assertEqual(answers([2, 4, 2, 1, 2, 0, 3, 4, 2, 1, 2, 0, 0, 3, 4, 2, 1, 2, 0]), [1, 0, 1, 1, 1, 0, 1, 0])
        self.assertEqual(answers([3, 4, 3, 2, 0, 1, 0, 0]), [1, -1, 1, 0, 1, 0])
        self.assertEqual(answers([4, 3, 6, 0, 6, 6]), [1, -1, 1, 0])
        self.assertEqual(answers([5, 2, 6, 6, 6]), [1, -1, 1, 0])
        self.assertEqual(answers([5, 0, 6, 5, 3, 6, 0, 0, 6]), [1, -1, 1, 0, 2, 0, 0, 1, 0])
        self.assertEqual(answers([5, 2, 7, 0, 7, 0]), [1, -1, 1, -2])

    def test_there_are_no_other_calls(self):
        for number in (8, 9, 4294967295):
            with self.assertRaises(UnknownCall):
                answers([0, number, 1, 0])

    def test_answers_are_lists_of_whole_numbers(self):
        given = answers(SOME_CALLS)
        self.assertIs(type(given), list)
        for number in given:
            self.assertIs(type(number), int)

    def test_what_is_handed_in_is_not_changed(self):
        handed_in = list(SOME_CALLS)
        answers(handed_in)
        self.assertEqual(handed_in, SOME_CALLS)

    def test_what_is_handed_in_is_not_changed_for_a_while(self):
        handed_in = Guarded(SOME_CALLS)
        self.assertEqual(answers(handed_in), THEIR_ANSWERS)
        self.assertEqual(list(handed_in), SOME_CALLS)

    def test_nothing_is_kept(self):
        self.assertEqual(answers(joined(line(ALL, A), rule(B, C), rule(A, D))), [1, 0, 1, 0, 1, 1])
        self.assertEqual(firsts(normally(B, C), normally(ALL, A), rule(B, C), line(A, B)), [0, 0, 0, 0])
        self.assertEqual(firsts(normally(some(0, A), some(1, B)), rule(B, C)), [0, 0])
        self.assertEqual(ask(rule(A, NONE), rule(B, C), ranks(), always(A, NONE))[2:], [[1, 0, 1], [1]])
        self.assertEqual(ask(ranks(), always(A, NONE), rank(NONE), drop(0)), [[0], [0], [0, 0], [-2]])
        for again in range(3):
            self.assertEqual(answers(SOME_CALLS), THEIR_ANSWERS)

    def test_what_is_given_back_is_new_each_time(self):
        first = answers(SOME_CALLS)
        second = answers(SOME_CALLS)
        first.clear()
        self.assertEqual(second, THEIR_ANSWERS)
        self.assertEqual(answers(SOME_CALLS), THEIR_ANSWERS)

    def test_as_many_calls_as_may_be(self):
        state = [line(B, A), rule(A, C), rule(B, lacks(C))]
        refused = [rule(both(A, A), both(D, some(0, D)))] * 47
        asked = [normally(A, C), normally(B, C)] * 5
        self.assertEqual(firsts(*state, *refused, *asked), [0, 0, 1] + [-7] * 47 + [1, 0] * 5)
        self.assertEqual(ask(*[begins()] * 60), [[0]] * 60)
        self.assertEqual(ask(*[drop(0)] * 60), [[-2]] * 60)

    def test_as_many_questions_as_may_be(self):
        state = [line(B, A), rule(A, C), rule(B, lacks(C)), rule(A, D), line(ALL, A)]
        questions = [(normally(B, lacks(C)), [1]), (always(B, C), [0]), (rank(B), [1, 2]), (ranks(), [2, 1, 2, 1])]
        for call, answer in questions:
            self.assertEqual(ask(*state, *[call] * 10)[5:], [answer] * 10)
        asked = [call for call, answer in questions] * 2 + [questions[2][0], questions[3][0]]
        expected = [answer for call, answer in questions] * 2 + [questions[2][1], questions[3][1]]
        self.assertEqual(ask(*state, *[drop(3)] * 45, *asked), [[0], [0], [1], [2], [1]] + [[-2]] * 45 + expected)

    def test_as_many_numbers_as_may_be(self):
        all_four = both(both(A, B), both(C, D))
        pair = (5,) * 8 + all_four + all_four
        asked = [line(pair)] * 4 + [rule(pair)] * 46
        asked += [normally(pair), always(pair), rank((5,) * 19 + all_four)] * 3 + [rank((5,) * 18 + lacks(all_four))]
        self.assertEqual([len(call) for call in asked], [32] * 60)
        expected = [[0], [1], [2], [-7], [0]] + [[-4]] * 45 + [[1], [1], [0, 1]] * 3 + [[0, 1]]
        self.assertEqual(ask(*asked), expected)

    def test_as_many_refused_numbers_as_may_be(self):
        for call in (line, rule, normally, always, rank):
            amount = 10 if call in (normally, always, rank) else 60
            for numbers in ((5,) * 30, (3,) * 30, (6, 1) * 15, (7, 0) * 15, (0,) * 30, (4294967295,) * 30):
                with self.subTest(call=call.__name__, numbers=numbers):
                    self.assertEqual(ask(*[call(numbers)] * amount), [[-1]] * amount)


class Begins(unittest.TestCase):
    def test_axioms_and_rules_are_removed(self):
        asked = [line(A, B), rule(C, D), begins(), normally(A, B), normally(C, D), normally(B, A)]
        self.assertEqual(firsts(*asked), [0, 0, 0, 0, 0, 0])

    def test_indexes_begin_again(self):
        asked = [line(A, B), line(B, C), rule(A, B), rule(B, C), begins(), line(A, B), rule(A, B), line(A, C)]
        self.assertEqual(firsts(*asked), [0, 1, 0, 1, 0, 0, 0, 1])

    def test_there_is_room_again(self):
        lines = [line(A, B), line(B, C), line(C, D)]
        rules = [rule(A, B), rule(B, C), rule(C, D), rule(D, A)]
        asked = lines + rules + [line(A, B), rule(A, C), begins()] + lines + rules
        expected = [0, 1, 2, 0, 1, 2, 3, -7, -7, 0, 0, 1, 2, 0, 1, 2, 3]
        self.assertEqual(firsts(*asked), expected)
        self.assertEqual(firsts(line(both(A, B), both(C, D)), begins(), rule(some(0, A), some(1, A))), [0, 0, 0])

    def test_begins_of_nothing(self):
        self.assertEqual(firsts(begins(), begins(), normally(A, A), begins()), [0, 0, 1, 0])


if __name__ == "__main__":
    unittest.main()
