"""least, nth and sure."""

import unittest

from tests.helper import (
    LAID, LOOK, TOP, TORN, all_pairs, ask, last, least, like_like_unlike, nth, records, rule, sure, vote,
    votes_and_rules,
)


class Least(unittest.TestCase):
    def test_one_cheapest(self):
        self.assertEqual(last(*like_like_unlike(3), least()), [3, 1, 0, 0, 0])
        self.assertEqual(last(*like_like_unlike(5), least()), [4, 1, 0, 0, 1])

    def test_several_cost_the_same(self):
        self.assertEqual(last(*like_like_unlike(4), least()), [4, 2, 0, 0, 0])

    def test_a_tie_that_does_not_begin_with_one_group(self):
        line = [records(3), vote(1, 2, 4, 0), vote(2, 3, 4, 0), vote(1, 3, 0, 1000)]
        self.assertEqual(last(*line, least()), [4, 2, 0, 0, 1])

    def test_all_parted(self):
        line = [records(4)] + [vote(i, j, 0, 1) for i, j in all_pairs(4)]
        self.assertEqual(last(*line, least()), [0, 1, 0, 1, 2, 3])

    def test_groups_are_numbered_as_they_are_met(self):
        line = [records(5), vote(1, 5, 9, 0), vote(2, 4, 9, 0)]
        line += [vote(i, j, 0, 1) for i, j in ((1, 2), (1, 3), (1, 4), (2, 3), (2, 5), (3, 4), (3, 5), (4, 5))]
        self.assertEqual(last(*line, least()), [0, 1, 0, 1, 2, 1, 0])

    def test_costs_under_rules(self):
        self.assertEqual(last(*like_like_unlike(3), rule(2, 3, 2), least()), [4, 1, 0, 0, 1])
        self.assertEqual(last(*like_like_unlike(3), rule(1, 2, 2), least()), [5, 1, 0, 1, 1])
        self.assertEqual(last(*like_like_unlike(9), rule(1, 3, 1), least()), [9, 1, 0, 0, 0])
        self.assertEqual(last(*like_like_unlike(9), rule(1, 3, 1), rule(1, 2, 2), least()), [18, 1, 0, 1, 0])

    def test_the_most_that_groups_cost(self):
        line = [records(7)] + [vote(i, j, 1000, 1000) for i, j in all_pairs(7)]
        self.assertEqual(last(*line, least()), [21000, 877] + [0] * 7)

    def test_none_keep_to_the_rules(self):
        self.assertEqual(last(*TORN, least()), [-6])
        for n in range(3, 8):
            linked = [rule(i, i + 1, 1) for i in range(1, n)]
            self.assertEqual(last(records(n), *linked, least()), [0, 1] + [0] * n)
            self.assertEqual(last(records(n), *linked, rule(n, 1, 2), least()), [-6])

    def test_rules_that_look_torn_but_are_not(self):
        self.assertEqual(last(records(3), rule(1, 2, 2), rule(2, 3, 2), rule(1, 3, 1), least()), [0, 1, 0, 1, 0])
        self.assertEqual(last(records(3), rule(1, 2, 2), rule(2, 3, 2), rule(1, 3, 2), least()), [0, 1, 0, 1, 2])

    def test_a_rule_taken_back(self):
        self.assertEqual(ask(*TORN, least(), rule(1, 3, 0), least())[-3:], [[-6], [2], [0, 1, 0, 0, 0, 0]])


class Nth(unittest.TestCase):
    def test_from_the_first_to_behind_the_last(self):
        told = ask(*like_like_unlike(4), nth(0), nth(1), nth(2), nth(TOP))
        self.assertEqual(told[4:], [[4, 0, 0, 0], [4, 0, 0, 1], [-5], [-5]])

    def test_one_alone(self):
        self.assertEqual(ask(*like_like_unlike(3), nth(0), nth(1))[4:], [[3, 0, 0, 0], [-5]])

    def test_all_in_order(self):
        told = ask(records(3), *[nth(k) for k in range(6)])
        self.assertEqual(told[1:], [[0, 0, 0, 0], [0, 0, 0, 1], [0, 0, 1, 0], [0, 0, 1, 1], [0, 0, 1, 2], [-5]])

    def test_in_order_under_a_rule(self):
        told = ask(records(3), rule(1, 2, 2), *[nth(k) for k in range(4)])
        self.assertEqual(told[2:], [[0, 0, 1, 0], [0, 0, 1, 1], [0, 0, 1, 2], [-5]])

    def test_none_keep_to_the_rules_is_told_first(self):
        for k in (0, 1, 877, TOP):
            self.assertEqual(last(*TORN, nth(k)), [-6])


class Sure(unittest.TestCase):
    def test_together_and_parted(self):
        self.assertEqual(last(*like_like_unlike(3), sure()), [3, 1, 2, 1, 3, 2, 3, 0])
        self.assertEqual(last(*like_like_unlike(5), sure()), [1, 1, 2, 2, 1, 3, 2, 3])

    def test_of_several_what_is_the_same_in_all(self):
        self.assertEqual(last(*like_like_unlike(4), sure()), [1, 1, 2, 0])
        line = [records(3), vote(1, 2, 4, 0), vote(2, 3, 4, 0), vote(1, 3, 0, 1000)]
        self.assertEqual(last(*line, sure()), [0, 1, 1, 3])

    def test_nothing_is_sure(self):
        self.assertEqual(last(records(7), sure()), [0, 0])

    def test_pairs_in_order(self):
        line = [records(4), rule(4, 2, 1), rule(3, 1, 1), rule(4, 3, 2)]
        self.assertEqual(last(*line, sure()), [2, 1, 3, 2, 4, 4, 1, 2, 1, 4, 2, 3, 3, 4])

    def test_all_pairs_of_seven(self):
        pairs = [number for pair in all_pairs(7) for number in pair]
        together = [rule(1, j, 1) for j in range(2, 8)]
        self.assertEqual(last(records(7), *together, sure()), [21] + pairs + [0])
        parted = [rule(i, j, 2) for i, j in all_pairs(7)]
        self.assertEqual(last(records(7), *parted, sure()), [0, 21] + pairs)

    def test_none_keep_to_the_rules(self):
        self.assertEqual(last(*TORN, sure()), [-6])


class Unchanged(unittest.TestCase):
    def test_asking_changes_nothing(self):
        laid = ask(*LAID, *LOOK, *votes_and_rules(3))
        for call in (least(), nth(0), nth(TOP), sure()):
            told = ask(*LAID, call, *LOOK, *votes_and_rules(3))
            told.pop(len(LAID))
            self.assertEqual(told, laid)

    def test_a_refusal_leaves_all_as_it_was(self):
        laid = ask(*TORN, *votes_and_rules(4))
        for call in (least(), nth(0), nth(TOP), sure()):
            told = ask(*TORN, call, *votes_and_rules(4))
            self.assertEqual(told.pop(len(TORN)), [-6])
            self.assertEqual(told, laid)
