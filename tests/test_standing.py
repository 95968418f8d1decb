"""Promise 3: standing, in ordinary houses and at the edges that the document names."""

import unittest

from cabinets.govern import standing, stands
from tests.houses import ALONE_OR_THREE, SIX, houses, parties_of, told_standing


def by_each_rule(seats, likes, hates):
    return [standing(r, seats, likes, hates) for r in range(3)]


class OrdinaryHouses(unittest.TestCase):
    def test_no_likes_and_no_hates(self):
        everybody = [7, 1, 2, 3, 4, 5, 6, 7]
        self.assertEqual(by_each_rule([10, 20, 40], [], []), [everybody, [4, 4, 5, 6, 7], everybody])

    def test_one_hate(self):
        self.assertEqual(by_each_rule([10, 20, 30], [], [0, 1]),
                         [[4, 2, 4, 5, 6], [2, 5, 6], [5, 1, 2, 4, 5, 6]])

    def test_a_like_and_a_hate(self):
        self.assertEqual(by_each_rule([40, 35, 25], [2, 1], [0, 1]),
                         [[5, 1, 2, 4, 5, 6], [3, 2, 5, 6], [5, 1, 2, 4, 5, 6]])

    def test_a_like_that_ends_when_another_comes_in(self):
        self.assertEqual(by_each_rule(*ALONE_OR_THREE),
                         [[4, 1, 7, 8, 9], [3, 1, 7, 9], [9, 1, 2, 3, 4, 5, 6, 7, 8, 9]])

    def test_six_parties(self):
        self.assertEqual(standing(0, *SIX), [
            30, 1, 2, 3, 6, 8, 9, 10, 11, 12, 14, 16, 17, 18, 19, 22, 24, 25, 26, 27, 28, 30, 33, 34, 35, 38, 40, 41,
            42, 43, 46])
        self.assertEqual(standing(1, *SIX), [13, 3, 6, 11, 14, 17, 19, 22, 25, 27, 30, 35, 43, 46])
        self.assertEqual(standing(2, *SIX), [
            35, 1, 2, 3, 4, 6, 8, 9, 10, 11, 12, 14, 16, 17, 18, 19, 20, 22, 24, 25, 26, 27, 28, 30, 32, 33, 34, 35,
            36, 38, 40, 41, 42, 43, 44, 46])

    def test_six_parties_without_likes_or_hates(self):
        everybody = [63, *range(1, 64)]
        majorities = [s for s in range(64) if len(parties_of(s)) > 3]
        self.assertEqual(by_each_rule([200] * 6, [], []), [everybody, [22, *majorities], everybody])


class Edges(unittest.TestCase):
    def test_just_half_for(self):
        self.assertEqual(by_each_rule([30, 30], [], []), [[3, 1, 2, 3], [1, 3], [3, 1, 2, 3]])
        self.assertEqual(by_each_rule([31, 30], [], []), [[3, 1, 2, 3], [2, 1, 3], [3, 1, 2, 3]])

    def test_just_half_for_and_just_half_against(self):
        self.assertEqual(by_each_rule([30, 20, 10], [], [0, 1, 0, 2]), [[0], [0], [4, 1, 2, 4, 6]])

    def test_one_seat_beside_just_half_against(self):
        self.assertEqual(by_each_rule([31, 30], [], [0, 1]), [[1, 1], [1, 1], [1, 1]])

    def test_who_likes_one_and_hates_another(self):
        self.assertEqual(by_each_rule([10, 10, 30], [2, 0], []),
                         [[7, 1, 2, 3, 4, 5, 6, 7], [6, 1, 3, 4, 5, 6, 7], [7, 1, 2, 3, 4, 5, 6, 7]])
        self.assertEqual(by_each_rule([10, 10, 30], [2, 0], [2, 1]), [[3, 1, 4, 5], [3, 1, 4, 5], [3, 1, 4, 5]])

    def test_a_hate_told_the_other_way_about(self):
        for hates in ([0, 1], [1, 0], [0, 1, 1, 0]):
            self.assertEqual(by_each_rule([10, 30], [], hates), [[1, 2], [1, 2], [1, 2]])
            self.assertEqual(by_each_rule([10, 20, 30], [], hates),
                             [[4, 2, 4, 5, 6], [2, 5, 6], [5, 1, 2, 4, 5, 6]])

    def test_as_many_against_as_for(self):
        self.assertEqual(by_each_rule([10, 10], [], [0, 1]), [[0], [0], [2, 1, 2]])
        self.assertEqual(by_each_rule([10, 10, 30], [], [0, 1]), [[3, 4, 5, 6], [3, 4, 5, 6], [5, 1, 2, 4, 5, 6]])

    def test_a_cabinet_that_stands_without_a_majority(self):
        self.assertEqual(by_each_rule([1, 200], [], []), [[3, 1, 2, 3], [2, 2, 3], [3, 1, 2, 3]])
        self.assertEqual(by_each_rule([20, 10, 100], [], [0, 1]),
                         [[4, 1, 4, 5, 6], [3, 4, 5, 6], [5, 1, 2, 4, 5, 6]])

    def test_a_like_of_one_who_is_not_of_it(self):
        self.assertEqual(standing(1, [10, 20, 30], [], []), [3, 5, 6, 7])
        self.assertEqual(standing(1, [10, 20, 30], [2, 0], []), [5, 1, 3, 5, 6, 7])
        self.assertEqual(standing(1, [10, 20, 30], [2, 1], []), [5, 2, 3, 5, 6, 7])


class WhatIsTold(unittest.TestCase):
    def test_just_the_sets_of_which_stands_answers_1(self):
        for seats, likes, hates in houses(350):
            for r in range(3):
                with self.subTest(r=r, seats=seats, likes=likes, hates=hates):
                    those = standing(r, seats, likes, hates)[1:]
                    for s in range(2 ** len(seats)):
                        self.assertEqual(stands(r, s, seats, likes, hates), [int(s in those)])
                    self.assertLess(max(those, default=0), 2 ** len(seats))

    def test_as_the_words_told_once_more(self):
        for seats, likes, hates in houses(350, start=2):
            for r in range(3):
                with self.subTest(r=r, seats=seats, likes=likes, hates=hates):
                    self.assertEqual(standing(r, seats, likes, hates), told_standing(r, seats, likes, hates))


if __name__ == "__main__":
    unittest.main()
