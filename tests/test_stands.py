"""Promise 2: stands, in ordinary houses and at the edges that the document names."""

import unittest

from cabinets.govern import stands
from tests.houses import houses, told_stands


def by_each_rule(s, seats, likes, hates):
    return [stands(r, s, seats, likes, hates) for r in range(3)]


class OrdinaryHouses(unittest.TestCase):
    def test_a_majority_stands_by_each_rule(self):
        self.assertEqual(by_each_rule(1, [40, 20, 10], [], [0, 1, 0, 2]), [[1], [1], [1]])
        self.assertEqual(by_each_rule(6, [20, 30, 10], [], [0, 1]), [[1], [1], [1]])

    def test_more_than_half_against_stands_by_no_rule(self):
        self.assertEqual(by_each_rule(2, [40, 20, 10], [], [0, 1]), [[0], [0], [0]])

    def test_likes_make_the_majority(self):
        seats = [20, 15, 30]
        self.assertEqual(by_each_rule(1, seats, [], []), [[1], [0], [1]])
        self.assertEqual(by_each_rule(1, seats, [1, 0], []), [[1], [1], [1]])
        self.assertEqual(by_each_rule(1, seats, [1, 0], [0, 2]), [[1], [1], [1]])

    def test_fewer_for_than_against_but_not_more_than_half_against(self):
        self.assertEqual(by_each_rule(1, [10, 20, 30], [], [0, 1]), [[0], [0], [1]])

    def test_a_set_whose_parties_hate_each_other_is_no_cabinet(self):
        for hates in ([0, 1], [1, 0], [2, 3, 1, 0]):
            self.assertEqual(by_each_rule(3, [40, 20, 10, 5], [], hates), [[0], [0], [0]])
            self.assertEqual(by_each_rule(7, [40, 20, 10, 5], [0, 1, 1, 0], hates), [[0], [0], [0]])

    def test_likes_of_each_other_are_not_asked_for(self):
        self.assertEqual(by_each_rule(7, [1, 2, 3], [], []), [[1], [1], [1]])

    def test_a_hate_of_one_outside_leaves_it_a_cabinet(self):
        self.assertEqual(by_each_rule(3, [40, 20, 10], [], [1, 2]), [[1], [1], [1]])

    def test_six_parties(self):
        seats = [50, 40, 30, 20, 10, 5]
        likes = [3, 0, 4, 1, 5, 2]
        hates = [0, 2, 4, 5]
        self.assertEqual(by_each_rule(1, seats, likes, hates), [[1], [0], [1]])
        self.assertEqual(by_each_rule(3, seats, likes, hates), [[1], [1], [1]])
        self.assertEqual(by_each_rule(4, seats, likes, hates), [[0], [0], [1]])
        self.assertEqual(by_each_rule(5, seats, likes, hates), [[0], [0], [0]])
        self.assertEqual(by_each_rule(63, seats, likes, hates), [[0], [0], [0]])
        self.assertEqual(by_each_rule(63, seats, likes, []), [[1], [1], [1]])


class Edges(unittest.TestCase):
    def test_nobody(self):
        self.assertEqual(by_each_rule(0, [], [], []), [[0], [0], [0]])

    def test_one_party(self):
        self.assertEqual(by_each_rule(0, [7], [], []), [[0], [0], [0]])
        self.assertEqual(by_each_rule(1, [7], [], []), [[1], [1], [1]])

    def test_just_half_for_and_fewer_against(self):
        self.assertEqual(by_each_rule(1, [30, 20, 10], [], []), [[1], [0], [1]])
        self.assertEqual(by_each_rule(1, [30, 20, 10], [], [0, 1]), [[1], [0], [1]])

    def test_just_half_for_with_a_like(self):
        self.assertEqual(by_each_rule(1, [20, 10, 30], [1, 0], []), [[1], [0], [1]])

    def test_just_half_for_and_just_half_against(self):
        self.assertEqual(by_each_rule(1, [30, 20, 10], [], [0, 1, 2, 0]), [[0], [0], [1]])

    def test_just_half_against_and_fewer_for(self):
        self.assertEqual(by_each_rule(1, [10, 30, 20], [], [0, 1]), [[0], [0], [1]])

    def test_one_seat_beside_just_half(self):
        self.assertEqual(by_each_rule(1, [31, 30], [], [0, 1]), [[1], [1], [1]])
        self.assertEqual(by_each_rule(2, [31, 30], [], [0, 1]), [[0], [0], [0]])
        self.assertEqual(by_each_rule(1, [1, 2, 2], [], [0, 1]), [[0], [0], [1]])
        self.assertEqual(by_each_rule(1, [1, 3, 1], [], [0, 1]), [[0], [0], [0]])
        self.assertEqual(by_each_rule(1, [2, 3], [], []), [[1], [0], [1]])

    def test_who_likes_one_and_hates_another(self):
        self.assertEqual(by_each_rule(3, [10, 10, 30], [2, 0], []), [[1], [1], [1]])
        self.assertEqual(by_each_rule(3, [10, 10, 30], [2, 0], [2, 1]), [[0], [0], [0]])
        self.assertEqual(by_each_rule(3, [10, 10, 30], [2, 0], [1, 2]), [[0], [0], [0]])

    def test_a_hate_told_the_other_way_about(self):
        for hates in ([0, 1], [1, 0]):
            self.assertEqual(by_each_rule(1, [10, 30], [], hates), [[0], [0], [0]])
            self.assertEqual(by_each_rule(2, [10, 30], [], hates), [[1], [1], [1]])
            self.assertEqual(by_each_rule(3, [10, 30], [], hates), [[0], [0], [0]])

    def test_a_set_that_is_empty(self):
        self.assertEqual(by_each_rule(0, [10, 20, 30], [], []), [[0], [0], [0]])
        self.assertEqual(by_each_rule(0, [10, 20, 30], [0, 1], [1, 2]), [[0], [0], [0]])

    def test_as_many_against_as_for(self):
        self.assertEqual(by_each_rule(1, [10, 10, 30], [], [0, 1]), [[0], [0], [1]])
        self.assertEqual(by_each_rule(1, [11, 10, 30], [], [0, 1]), [[1], [0], [1]])

    def test_a_cabinet_that_stands_without_a_majority(self):
        self.assertEqual(by_each_rule(1, [20, 10, 100], [], [0, 1]), [[1], [0], [1]])
        self.assertEqual(by_each_rule(2, [20, 10, 100], [], [0, 1]), [[0], [0], [1]])
        self.assertEqual(by_each_rule(1, [1, 200], [], []), [[1], [0], [1]])

    def test_a_like_of_one_who_is_not_of_it(self):
        self.assertEqual(by_each_rule(1, [10, 20, 30], [2, 1], []), [[1], [0], [1]])
        self.assertEqual(by_each_rule(1, [10, 20, 30], [2, 1, 2, 0], []), [[1], [1], [1]])
        self.assertEqual(by_each_rule(1, [10, 20, 30], [0, 2], []), [[1], [0], [1]])


class ToldOnceMore(unittest.TestCase):
    def test_as_the_words_say(self):
        for seats, likes, hates in houses(350, start=2):
            for s in range(2 ** len(seats)):
                for r in range(3):
                    with self.subTest(r=r, s=s, seats=seats, likes=likes, hates=hates):
                        self.assertEqual(stands(r, s, seats, likes, hates),
                                         told_stands(r, s, seats, likes, hates))


if __name__ == "__main__":
    unittest.main()
