import unittest

from tests.helper import LAID, TOP, TORN, all_pairs, ask, last, least, records, rule, vote, without


class Without(unittest.TestCase):
    def test_each_of_three(self):
        self.assertEqual(ask(*LAID, without(1), without(2), without(3))[5:], [[3], [2], [1]])

    def test_the_cost_alone_of_all_others(self):
        line = [records(4), vote(2, 3, 5, 0), vote(3, 4, 4, 0), vote(2, 4, 0, 3)]
        line += [vote(1, j, 100, 100) for j in (2, 3, 4)]
        self.assertEqual(ask(*line, without(1), least())[-2:], [[3], [303, 2, 0, 0, 0, 0]])

    def test_its_votes_are_not_there(self):
        line = [records(3)] + [vote(i, j, 9, 9) for i, j in all_pairs(3)]
        self.assertEqual(ask(*line, without(1), without(2), without(3))[-3:], [[9], [9], [9]])
        line = [records(7)] + [vote(i, j, 1000, 1000) for i, j in all_pairs(7)]
        for i in range(1, 8):
            self.assertEqual(last(*line, without(i)), [15000])

    def test_its_rules_are_not_there(self):
        line = [records(3), rule(1, 2, 1), rule(2, 3, 1), vote(1, 3, 2, 8)]
        self.assertEqual(ask(*line, without(1), without(2), without(3))[-3:], [[0], [2], [0]])

    def test_others_rules_count(self):
        line = [records(4), vote(2, 4, 2, 8), rule(2, 4, 1)]
        self.assertEqual(ask(*line, *[without(i) for i in range(1, 5)])[-4:], [[8], [0], [8], [0]])
        line = [records(4), vote(2, 4, 8, 2), rule(2, 4, 2)]
        self.assertEqual(ask(*line, *[without(i) for i in range(1, 5)])[-4:], [[8], [0], [8], [0]])

    def test_one_is_left_of_two(self):
        for kind in range(3):
            line = [vote(1, 2, 7, 5), rule(1, 2, kind)]
            self.assertEqual(ask(*line, without(1), without(2))[-2:], [[0], [0]])

    def test_one_and_n_are_records(self):
        for n in range(2, 8):
            self.assertEqual(last(records(n), without(1)), [0])
            self.assertEqual(last(records(n), without(n)), [0])

    def test_no_record(self):
        for n in range(2, 8):
            for i in (0, n + 1, n + 2, 100, TOP):
                self.assertEqual(last(records(n), without(i)), [-3])

    def test_a_record_whose_rules_alone_are_why_none_keep(self):
        # The rules on the way from 1 to 3 need all four.
        torn = TORN + [vote(1, 2, 0, 6), vote(3, 4, 7, 2)]
        told = ask(*torn, *[without(i) for i in range(1, 5)], least())[-5:]
        self.assertEqual(told, [[2], [7], [6], [0], [-6]])
        torn = [records(5), rule(1, 2, 1), rule(2, 3, 1), rule(1, 3, 2)]
        self.assertEqual(ask(*torn, *[without(i) for i in range(1, 6)])[-5:], [[0], [0], [0], [-6], [-6]])

    def test_none_keep_anyway(self):
        torn = [records(6), rule(1, 2, 1), rule(2, 3, 1), rule(1, 3, 2)]
        torn += [rule(4, 6, 1), rule(5, 6, 1), rule(4, 5, 2)]
        for i in range(1, 7):
            self.assertEqual(last(*torn, without(i)), [-6])

    def test_no_record_is_told_first(self):
        torn = [records(7), rule(1, 2, 1), rule(2, 3, 1), rule(1, 3, 2), rule(5, 6, 1), rule(6, 7, 1), rule(5, 7, 2)]
        self.assertEqual(last(*torn, without(4)), [-6])
        for i in (0, 8, TOP):
            self.assertEqual(last(*torn, without(i)), [-3])

    def test_the_record_is_still_there_behind_it(self):
        self.assertEqual(ask(*LAID, least(), without(3), least(), without(3))[5:], [
            [7, 1, 0, 0, 1], [1], [7, 1, 0, 0, 1], [1],
        ])
