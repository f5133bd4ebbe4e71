import unittest

from tests.helper import LAID, TOP, TORN, all_pairs, ask, cost, last, like_like_unlike, nth, records, rule, vote


class Cost(unittest.TestCase):
    def test_each_way_to_part_three(self):
        told = ask(*like_like_unlike(3), cost(0, 0, 0), cost(0, 0, 1), cost(0, 1, 0), cost(0, 1, 1), cost(0, 1, 2))
        expected = [[3, 1, 0, 0, 0], [4, 1, 0, 0, 1], [12, 1, 0, 1, 0], [5, 1, 0, 1, 1], [9, 1, 0, 1, 2]]
        self.assertEqual(told[4:], expected)

    def test_groups_are_told_as_they_are_met(self):
        self.assertEqual(last(records(3), cost(7, 7, 9)), [0, 1, 0, 0, 1])
        self.assertEqual(last(records(3), cost(2, 1, 0)), [0, 1, 0, 1, 2])
        self.assertEqual(last(records(3), cost(1, 0, 1)), [0, 1, 0, 1, 0])
        self.assertEqual(last(records(7), cost(9, 4, 100, 4, 0, 100, 9)), [0, 1, 0, 1, 2, 1, 3, 2, 0])

    def test_groups_that_are_told_are_told_so(self):
        for n, ways in ((2, 2), (3, 5), (4, 15), (5, 52)):
            told = ask(records(n), *[nth(k) for k in range(ways)])[1:]
            again = ask(records(n), *[cost(*answer[1:]) for answer in told])[1:]
            self.assertEqual([answer[2:] for answer in again], [answer[1:] for answer in told])

    def test_keeping_to_the_rules(self):
        self.assertEqual(ask(*LAID, cost(0, 0, 0), cost(0, 0, 1), cost(0, 1, 1), cost(0, 1, 0), cost(0, 1, 2))[5:], [
            [13, 1, 0, 0, 0], [7, 1, 0, 0, 1], [10, 0, 0, 1, 1], [18, 0, 0, 1, 0], [11, 0, 0, 1, 2],
        ])
        ruled = [records(3), rule(1, 3, 2)]
        self.assertEqual(ask(*ruled, cost(5, 5, 5), cost(5, 4, 5), cost(5, 4, 4))[2:], [
            [0, 0, 0, 0, 0], [0, 0, 0, 1, 0], [0, 1, 0, 1, 1],
        ])

    def test_one_rule_of_two_is_broken(self):
        line = [records(4), rule(1, 2, 1), rule(3, 4, 2)]
        told = ask(*line, cost(0, 0, 1, 2), cost(0, 0, 1, 1), cost(0, 1, 2, 3), cost(0, 1, 2, 2))[3:]
        self.assertEqual([answer[1] for answer in told], [1, 0, 0, 0])

    def test_no_refusal_where_none_keep_to_the_rules(self):
        self.assertEqual(last(*TORN, cost(0, 0, 0, 0)), [0, 0, 0, 0, 0, 0])
        self.assertEqual(last(*TORN, vote(1, 3, 2, 0), cost(1, 2, 3, 4)), [2, 0, 0, 1, 2, 3])

    def test_two_and_seven_records(self):
        self.assertEqual(ask(vote(1, 2, 8, 3), cost(0, 0), cost(0, 1))[1:], [[3, 1, 0, 0], [8, 1, 0, 1]])
        line = [records(7)] + [vote(i, j, 1000, 999) for i, j in all_pairs(7)]
        told = ask(*line, cost(*[6] * 7), cost(*range(94, 101)))[-2:]
        self.assertEqual(told, [[21 * 999, 1] + [0] * 7, [21000, 1, 0, 1, 2, 3, 4, 5, 6]])

    def test_not_a_number_for_each(self):
        for n in range(2, 8):
            for many in [k for k in range(10) if k != n] + [99, 100]:
                self.assertEqual(last(records(n), cost(*[0] * many)), [-1], (n, many))
            self.assertEqual(last(records(n), cost(*[0] * n)), [0, 1] + [0] * n)

    def test_numbers_up_to_100(self):
        self.assertEqual(last(cost(100, 100)), [0, 1, 0, 0])
        self.assertEqual(last(cost(99, 100)), [0, 1, 0, 1])
        for high in (101, 102, TOP):
            for place in range(3):
                numbers = [0, 1, 0]
                numbers[place] = high
                self.assertEqual(last(records(3), cost(*numbers)), [-1])
            self.assertEqual(last(records(3), cost(high, high, high)), [-1])

    def test_both_are_wrong(self):
        self.assertEqual(last(records(3), cost(101, 0)), [-1])
        self.assertEqual(last(records(3), cost(0, 0, 0, TOP)), [-1])
        self.assertEqual(last(cost(*[TOP] * 100)), [-1])

    def test_the_call_behind_it_begins_at_its_place(self):
        self.assertEqual(ask(cost(), cost(0, 0), cost(7, 2, 0), cost(3), cost(0, 3)), [
            [-1], [0, 1, 0, 0], [-1], [-1], [0, 1, 0, 1],
        ])
