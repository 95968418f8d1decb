"""Promise 3: fewest, in ordinary houses and at the edges that the document names."""

import unittest

from cabinets.govern import fewest
from tests.houses import ALONE_OR_THREE, LAST_OF_FORTY, NO_MAJORITY, SIX


def by_each_rule(seats, likes, hates):
    return [fewest(r, seats, likes, hates) for r in range(3)]


class OrdinaryHouses(unittest.TestCase):
    def test_no_likes_and_no_hates(self):
        self.assertEqual(by_each_rule([10, 20, 40], [], []), [[1, 1], [1, 4], [1, 1]])
        self.assertEqual(by_each_rule([10, 10, 10], [], []), [[1, 1], [2, 3], [1, 1]])

    def test_one_hate(self):
        self.assertEqual(by_each_rule([10, 20, 30], [], [0, 1]), [[1, 2], [2, 5], [1, 1]])

    def test_a_like_and_a_hate(self):
        self.assertEqual(by_each_rule([40, 35, 25], [2, 1], [0, 1]), [[1, 1], [1, 2], [1, 1]])

    def test_a_like_that_ends_when_another_comes_in(self):
        self.assertEqual(by_each_rule(*ALONE_OR_THREE), [[1, 1], [1, 1], [1, 1]])

    def test_two_who_need_each_other_against_a_third(self):
        self.assertEqual(by_each_rule([10, 10, 15], [], [2, 0, 1, 2]), [[2, 3], [2, 3], [1, 1]])

    def test_six_parties(self):
        self.assertEqual(by_each_rule(*SIX), [[1, 1], [2, 3], [1, 1]])
        self.assertEqual(by_each_rule(*LAST_OF_FORTY), [[1, 1], [1, 32], [1, 1]])

    def test_six_parties_of_200_seats_each(self):
        self.assertEqual(by_each_rule([200] * 6, [], []), [[1, 1], [4, 15], [1, 1]])
        # All others hate party 0: it doesn't stand, and each of them alone has as many against it as for it.
        self.assertEqual(by_each_rule([200] * 6, [], [0, 1, 2, 0, 0, 3, 4, 0, 0, 5]), [[2, 6], [4, 30], [1, 2]])

    def test_all_others_against_a_large_one(self):
        self.assertEqual(fewest(1, [2, 2, 2, 7], [], [3, 0, 3, 1, 3, 2]), [1, 8])
        self.assertEqual(fewest(1, [2, 2, 2, 5], [], [3, 0, 3, 1, 3, 2]), [3, 7])


class WhichIsTold(unittest.TestCase):
    def test_fewer_parties_in_a_greater_number(self):
        # 3 stands too, and is less than 4, but has two parties.
        self.assertEqual(fewest(1, [20, 20, 10], [0, 2], []), [1, 4])
        # 7 stands too, and is less than 9, but has three parties.
        self.assertEqual(fewest(1, [10, 10, 11, 20], [], []), [2, 9])

    def test_as_few_parties_with_fewer_seats_is_not_asked(self):
        self.assertEqual(by_each_rule([30, 20, 10], [], []), [[1, 1], [2, 3], [1, 1]])

    def test_as_few_parties_with_more_seats_for_it_is_not_asked(self):
        self.assertEqual(fewest(0, [10, 20, 30], [0, 2, 1, 2], []), [1, 1])

    def test_fewer_parties_with_more_seats(self):
        self.assertEqual(fewest(1, [10, 10, 12, 25], [], []), [2, 9])
        self.assertEqual(fewest(1, [10, 10, 12, 40], [], []), [1, 8])


class Edges(unittest.TestCase):
    def test_one_party(self):
        for held in (1, 7, 200):
            self.assertEqual(by_each_rule([held], [], []), [[1, 1], [1, 1], [1, 1]])

    def test_just_half_for(self):
        self.assertEqual(by_each_rule([30, 30], [], []), [[1, 1], [2, 3], [1, 1]])
        self.assertEqual(by_each_rule([30, 31], [], []), [[1, 1], [1, 2], [1, 1]])

    def test_just_half_for_and_just_half_against(self):
        self.assertEqual(by_each_rule([30, 20, 10], [], [0, 1, 0, 2]), [[-33], [-33], [1, 1]])

    def test_one_seat_beside_just_half_against(self):
        self.assertEqual(by_each_rule([30, 20, 11], [], [0, 1, 0, 2]), [[2, 6], [2, 6], [1, 2]])

    def test_who_likes_one_and_hates_another(self):
        self.assertEqual(by_each_rule([10, 10, 20, 30], [2, 0], []), [[1, 1], [2, 3], [1, 1]])
        self.assertEqual(by_each_rule([10, 10, 20, 30], [2, 0], [2, 1]), [[1, 1], [2, 9], [1, 1]])

    def test_a_hate_told_the_other_way_about(self):
        for hates in ([0, 1], [1, 0], [0, 1, 1, 0]):
            self.assertEqual(by_each_rule([10, 30], [], hates), [[1, 2], [1, 2], [1, 2]])
            self.assertEqual(by_each_rule([10, 20, 30], [], hates), [[1, 2], [2, 5], [1, 1]])

    def test_as_many_against_as_for(self):
        self.assertEqual(by_each_rule([10, 10], [], [0, 1]), [[-33], [-33], [1, 1]])
        self.assertEqual(by_each_rule([10, 10, 30], [], [0, 1]), [[1, 4], [1, 4], [1, 1]])

    def test_a_cabinet_that_stands_without_a_majority(self):
        self.assertEqual(by_each_rule([1, 200], [], []), [[1, 1], [1, 2], [1, 1]])
        self.assertEqual(by_each_rule([20, 10, 100], [], [0, 1]), [[1, 1], [1, 4], [1, 1]])
        self.assertEqual(by_each_rule(*NO_MAJORITY), [[1, 4], [-33], [1, 1]])

    def test_a_like_of_one_who_is_not_of_it(self):
        self.assertEqual(fewest(1, [10, 20, 30], [], []), [2, 5])
        self.assertEqual(fewest(1, [10, 20, 30], [2, 0], []), [1, 1])
        self.assertEqual(fewest(1, [10, 20, 30], [2, 1], []), [1, 2])


if __name__ == "__main__":
    unittest.main()
