import unittest

from tests.helper import TORN, all_pairs, ask, greedy, last, least, like_like_unlike, records, rule, vote


class Steps(unittest.TestCase):
    def test_step_by_step(self):
        self.assertEqual(last(*like_like_unlike(3), greedy()), [2, 3, 0, 0, 0])
        self.assertEqual(last(*like_like_unlike(5), greedy()), [1, 4, 0, 0, 1])

    def test_no_step(self):
        for n in range(2, 8):
            self.assertEqual(last(records(n), greedy()), [0, 0] + list(range(n)))
        line = [records(7)] + [vote(i, j, 3, 5) for i, j in all_pairs(7)]
        self.assertEqual(last(*line, greedy()), [0, 63, 0, 1, 2, 3, 4, 5, 6])

    def test_a_gain_of_0_is_no_step(self):
        self.assertEqual(last(vote(1, 2, 5, 5), greedy()), [0, 5, 0, 1])
        self.assertEqual(last(vote(1, 2, 6, 5), greedy()), [1, 5, 0, 0])
        self.assertEqual(last(*like_like_unlike(4), greedy()), [1, 4, 0, 0, 1])

    def test_all_are_joined(self):
        for n in range(2, 8):
            line = [records(n)] + [vote(i, j, 1000, 999) for i, j in all_pairs(n)]
            self.assertEqual(last(*line, greedy()), [n - 1, 999 * n * (n - 1) // 2] + [0] * n)

    def test_it_may_cost_more_than_the_cheapest(self):
        line = [records(4), vote(2, 3, 3, 0), vote(1, 2, 2, 0), vote(3, 4, 2, 0)]
        line += [vote(1, 3, 0, 2), vote(2, 4, 0, 2)]
        self.assertEqual(ask(*line, greedy(), least())[-2:], [[1, 4, 0, 1, 1, 2], [3, 1, 0, 0, 1, 1]])

    def test_votes_against_are_taken_off_the_gain(self):
        line = [records(3), vote(1, 2, 9, 8), vote(2, 3, 2, 0), vote(1, 3, 0, 5)]
        self.assertEqual(last(*line, greedy()), [1, 9, 0, 1, 1])

    def test_what_is_gained_is_that_of_all_pairs_across(self):
        line = [records(4), vote(1, 2, 10, 0), vote(1, 3, 3, 0), vote(2, 3, 3, 0), vote(3, 4, 5, 0), vote(1, 4, 0, 9)]
        self.assertEqual(last(*line, greedy()), [2, 5, 0, 0, 0, 1])


class Ties(unittest.TestCase):
    def unlike(self, *pairs):
        return [vote(i, j, 0, 100) for i, j in pairs]

    def test_of_the_same_lower_number_the_other_one(self):
        line = [records(3), vote(1, 3, 5, 0), vote(1, 2, 5, 0)] + self.unlike((2, 3))
        self.assertEqual(last(*line, greedy()), [1, 5, 0, 0, 1])
        line = [records(4), vote(2, 4, 5, 0), vote(2, 3, 5, 0)] + self.unlike((3, 4))
        self.assertEqual(last(*line, greedy()), [1, 5, 0, 1, 1, 2])

    def test_the_lower_number_first(self):
        line = [records(3), vote(2, 3, 5, 0), vote(1, 3, 5, 0)] + self.unlike((1, 2))
        self.assertEqual(last(*line, greedy()), [1, 5, 0, 1, 0])
        line = [records(4), vote(3, 4, 5, 0), vote(2, 4, 5, 0)] + self.unlike((2, 3))
        self.assertEqual(last(*line, greedy()), [1, 5, 0, 1, 2, 1])

    def test_the_lower_number_comes_before_the_other_one(self):
        # With 2 and 3 joined first, 2 would not come to 1 and 4.
        line = [records(4), vote(2, 3, 5, 0), vote(1, 4, 5, 0), vote(1, 2, 4, 0), vote(2, 4, 4, 0), vote(1, 3, 0, 10)]
        self.assertEqual(last(*line, greedy()), [2, 5, 0, 0, 1, 0])

    def test_a_joined_group_has_its_first_record_s_number(self):
        # 2 and 7 are joined first; then it is 4 with either 2 and 7 or 3.
        line = [records(7), vote(2, 7, 9, 0), vote(4, 7, 5, 0), vote(3, 4, 5, 0)] + self.unlike((2, 3))
        self.assertEqual(last(*line, greedy()), [2, 5, 0, 1, 2, 1, 3, 4, 1])
        # 3 and 7 are joined first; then it is 4 with either 2 or 3 and 7.
        line = [records(7), vote(3, 7, 9, 0), vote(4, 7, 5, 0), vote(2, 4, 5, 0)] + self.unlike((2, 3))
        self.assertEqual(last(*line, greedy()), [2, 5, 0, 1, 2, 1, 3, 4, 2])

    def test_groups_by_rule_1_have_their_first_record_s_number(self):
        line = [records(5), rule(2, 5, 1), vote(4, 5, 5, 0), vote(3, 4, 5, 0)] + self.unlike((2, 3))
        self.assertEqual(last(*line, greedy()), [1, 5, 0, 1, 2, 1, 1])

    def test_a_greater_gain_comes_before_a_lower_number(self):
        line = [records(3), vote(1, 2, 5, 0), vote(2, 3, 6, 0)] + self.unlike((1, 3))
        self.assertEqual(last(*line, greedy()), [1, 5, 0, 1, 1])


class Rules(unittest.TestCase):
    def test_whom_rule_1_joins_is_no_step(self):
        self.assertEqual(last(vote(1, 2, 0, 9), rule(1, 2, 1), greedy()), [0, 9, 0, 0])
        line = [records(5), rule(1, 4, 1), rule(4, 5, 1), vote(1, 5, 3, 7)]
        self.assertEqual(last(*line, greedy()), [0, 7, 0, 1, 2, 0, 0])

    def test_groups_by_rule_1_are_joined_as_a_whole(self):
        line = [records(3), rule(1, 3, 1), vote(1, 2, 5, 0)]
        self.assertEqual(last(*line, vote(2, 3, 0, 4), greedy()), [1, 4, 0, 0, 0])
        self.assertEqual(last(*line, vote(2, 3, 0, 5), greedy()), [0, 5, 0, 1, 0])

    def test_two_that_may_not_be_joined(self):
        self.assertEqual(last(vote(1, 2, 9, 0), rule(1, 2, 2), greedy()), [0, 9, 0, 1])
        line = [records(3), vote(1, 2, 9, 0), vote(1, 3, 4, 0), vote(2, 3, 5, 0), rule(1, 2, 2)]
        self.assertEqual(last(*line, greedy()), [1, 13, 0, 1, 1])

    def test_groups_that_may_not_be_joined_for_one_pair(self):
        line = [records(4), vote(1, 2, 9, 0), vote(3, 4, 9, 0), vote(2, 3, 5, 0)]
        self.assertEqual(last(*line, greedy()), [3, 0, 0, 0, 0, 0])
        self.assertEqual(last(*line, rule(1, 4, 2), greedy()), [2, 5, 0, 0, 1, 1])

    def test_of_those_that_gain_the_same_the_first_that_may(self):
        line = [records(3), vote(1, 2, 5, 0), vote(1, 3, 5, 0), vote(2, 3, 5, 0), rule(1, 2, 2)]
        self.assertEqual(last(*line, greedy()), [1, 10, 0, 1, 0])

    def test_whom_rule_1_joins_has_rule_2(self):
        self.assertEqual(last(*TORN, greedy()), [-6])
        for n in range(3, 8):
            linked = [rule(i, i + 1, 1) for i in range(1, n)]
            self.assertEqual(last(records(n), *linked, greedy()), [0, 0] + [0] * n)
            self.assertEqual(last(records(n), *linked, rule(1, n, 2), greedy()), [-6])

    def test_rules_that_look_torn_but_are_not(self):
        line = [records(4), rule(1, 2, 1), rule(3, 4, 1), rule(2, 3, 2)]
        self.assertEqual(last(*line, greedy()), [0, 0, 0, 0, 1, 1])
        self.assertEqual(last(*line, rule(1, 4, 1), greedy()), [-6])

    def test_refused_just_where_least_is(self):
        rules = [(a, b, c, d) for a in range(3) for b in range(3) for c in range(3) for d in range(3)]
        for kinds in rules:
            line = [records(4)] + [rule(i, j, kind) for (i, j), kind in zip(((1, 2), (2, 4), (1, 4), (3, 4)), kinds)]
            told = ask(*line, greedy(), least())[-2:]
            self.assertEqual(told[0] == [-6], told[1] == [-6], kinds)
