"""Promise 3: tight, in ordinary houses and at the edges that the document names."""

import unittest

from cabinets.govern import standing, stands, tight
from tests.houses import ALONE_OR_THREE, SIX, houses, parties_of, told_tight


def by_each_rule(seats, likes, hates):
    return [tight(r, seats, likes, hates) for r in range(3)]


def without_one(s):
    return [s - 2 ** i for i in sorted(parties_of(s))]


class OrdinaryHouses(unittest.TestCase):
    def test_no_likes_and_no_hates(self):
        self.assertEqual(by_each_rule([10, 20, 40], [], []), [[3, 1, 2, 4], [1, 4], [3, 1, 2, 4]])
        self.assertEqual(tight(1, [10, 10, 10], [], []), [3, 3, 5, 6])

    def test_one_hate(self):
        self.assertEqual(by_each_rule([10, 20, 30], [], [0, 1]), [[2, 2, 4], [2, 5, 6], [3, 1, 2, 4]])

    def test_a_like_and_a_hate(self):
        self.assertEqual(by_each_rule([40, 35, 25], [2, 1], [0, 1]), [[3, 1, 2, 4], [2, 2, 5], [3, 1, 2, 4]])

    def test_one_leaves_at_a_time(self):
        # 7 is told, though 1, which is what two leave of it, stands too.
        self.assertEqual(by_each_rule(*ALONE_OR_THREE), [[3, 1, 7, 8], [2, 1, 7], [4, 1, 2, 4, 8]])

    def test_two_who_need_each_other_against_a_third(self):
        # By rule 0 neither 0 nor 1 stands alone, as 2 hates both.
        self.assertEqual(by_each_rule([10, 10, 15], [], [2, 0, 1, 2]), [[1, 3], [1, 3], [2, 1, 2]])

    def test_whoever_leaves_first_or_last_in_number(self):
        self.assertEqual(tight(1, [30, 1, 1], [], []), [1, 1])
        self.assertEqual(tight(1, [1, 30, 1], [], []), [1, 2])
        self.assertEqual(tight(1, [1, 1, 30], [], []), [1, 4])
        self.assertEqual(tight(1, [1, 1, 1, 1, 1, 30], [], []), [1, 32])

    def test_six_parties(self):
        self.assertEqual(by_each_rule(*SIX), [[4, 1, 2, 8, 16], [3, 3, 6, 17], [6, 1, 2, 4, 8, 16, 32]])

    def test_six_parties_without_likes_or_hates(self):
        alone = [6, 1, 2, 4, 8, 16, 32]
        fours = [s for s in range(64) if len(parties_of(s)) == 4]
        self.assertEqual(by_each_rule([200] * 6, [], []), [alone, [15, *fours], alone])


class Edges(unittest.TestCase):
    def test_one_party_of_several_is_tight_if_it_stands(self):
        for seats, likes, hates in houses(140):
            for r, answer in enumerate(by_each_rule(seats, likes, hates)):
                for i in range(len(seats)):
                    with self.subTest(i=i, r=r, seats=seats, likes=likes, hates=hates):
                        self.assertEqual([int(2 ** i in answer[1:])], stands(r, 2 ** i, seats, likes, hates))

    def test_just_half_for(self):
        self.assertEqual(by_each_rule([30, 30], [], []), [[2, 1, 2], [1, 3], [2, 1, 2]])
        self.assertEqual(by_each_rule([31, 30], [], []), [[2, 1, 2], [1, 1], [2, 1, 2]])

    def test_just_half_for_and_just_half_against(self):
        self.assertEqual(by_each_rule([30, 20, 10], [], [0, 1, 0, 2]), [[0], [0], [3, 1, 2, 4]])

    def test_one_seat_beside_just_half_against(self):
        self.assertEqual(by_each_rule([30, 20, 11], [], [0, 1, 0, 2]), [[1, 6], [1, 6], [2, 2, 4]])

    def test_who_likes_one_and_hates_another(self):
        self.assertEqual(by_each_rule([10, 10, 30], [2, 0], []), [[3, 1, 2, 4], [2, 1, 4], [3, 1, 2, 4]])
        self.assertEqual(by_each_rule([10, 10, 30], [2, 0], [2, 1]), [[2, 1, 4], [2, 1, 4], [2, 1, 4]])

    def test_a_hate_told_the_other_way_about(self):
        for hates in ([0, 1], [1, 0], [0, 1, 1, 0]):
            self.assertEqual(by_each_rule([10, 30], [], hates), [[1, 2], [1, 2], [1, 2]])
            self.assertEqual(by_each_rule([10, 20, 30], [], hates), [[2, 2, 4], [2, 5, 6], [3, 1, 2, 4]])

    def test_as_many_against_as_for(self):
        self.assertEqual(by_each_rule([10, 10], [], [0, 1]), [[0], [0], [2, 1, 2]])
        self.assertEqual(by_each_rule([10, 10, 20], [], [2, 0, 2, 1]), [[0], [0], [3, 1, 2, 4]])

    def test_a_cabinet_that_stands_without_a_majority(self):
        self.assertEqual(by_each_rule([1, 200], [], []), [[2, 1, 2], [1, 2], [2, 1, 2]])
        self.assertEqual(by_each_rule([20, 10, 100], [], [0, 1]), [[2, 1, 4], [1, 4], [3, 1, 2, 4]])

    def test_a_like_of_one_who_is_not_of_it(self):
        self.assertEqual(tight(1, [10, 20, 30], [], []), [2, 5, 6])
        self.assertEqual(tight(1, [10, 20, 30], [2, 0], []), [2, 1, 6])
        self.assertEqual(tight(1, [10, 20, 30], [2, 1], []), [2, 2, 5])


class WhatIsTold(unittest.TestCase):
    def test_each_told_stands_and_does_not_without_any_one(self):
        told = 0
        for seats, likes, hates in houses(350):
            for r in range(3):
                for s in tight(r, seats, likes, hates)[1:]:
                    told += len(parties_of(s)) > 1
                    with self.subTest(s=s, r=r, seats=seats, likes=likes, hates=hates):
                        self.assertEqual(stands(r, s, seats, likes, hates), [1])
                        for left in without_one(s):
                            self.assertEqual(stands(r, left, seats, likes, hates), [0])
        self.assertGreater(told, 0)

    def test_each_that_stands_and_is_not_told_stands_without_some_one(self):
        passed_over = 0
        for seats, likes, hates in houses(350):
            for r in range(3):
                those = tight(r, seats, likes, hates)[1:]
                for s in standing(r, seats, likes, hates)[1:]:
                    if s not in those:
                        passed_over += 1
                        with self.subTest(s=s, r=r, seats=seats, likes=likes, hates=hates):
                            self.assertIn([1], [stands(r, left, seats, likes, hates) for left in without_one(s)])
        self.assertGreater(passed_over, 0)

    def test_as_the_words_told_once_more(self):
        for seats, likes, hates in houses(350, start=2):
            for r in range(3):
                with self.subTest(r=r, seats=seats, likes=likes, hates=hates):
                    self.assertEqual(tight(r, seats, likes, hates), told_tight(r, seats, likes, hates))


if __name__ == "__main__":
    unittest.main()
