"""Promise 3: smallest, in ordinary houses and at the edges that the document names."""

import unittest

from cabinets.govern import smallest
from tests.houses import ALONE_OR_THREE, LAST_OF_FORTY, NO_MAJORITY, SIX


def by_each_rule(seats, likes, hates):
    return [smallest(r, seats, likes, hates) for r in range(3)]


class OrdinaryHouses(unittest.TestCase):
    def test_no_likes_and_no_hates(self):
        self.assertEqual(by_each_rule([10, 20, 40], [], []), [[10, 1], [40, 4], [10, 1]])
        self.assertEqual(by_each_rule([10, 10, 10], [], []), [[10, 1], [20, 3], [10, 1]])

    def test_one_hate(self):
        self.assertEqual(by_each_rule([10, 20, 30], [], [0, 1]), [[20, 2], [40, 5], [10, 1]])

    def test_a_like_and_a_hate(self):
        self.assertEqual(by_each_rule([40, 35, 25], [2, 1], [0, 1]), [[25, 4], [35, 2], [25, 4]])

    def test_a_like_that_ends_when_another_comes_in(self):
        self.assertEqual(by_each_rule(*ALONE_OR_THREE), [[20, 1], [20, 1], [20, 1]])

    def test_two_who_need_each_other_against_a_third(self):
        self.assertEqual(by_each_rule([10, 9, 15], [], [2, 0, 1, 2]), [[19, 3], [19, 3], [9, 2]])

    def test_six_parties(self):
        self.assertEqual(by_each_rule(*SIX), [[10, 16], [60, 17], [5, 32]])
        self.assertEqual(by_each_rule(*LAST_OF_FORTY), [[27, 32], [27, 32], [27, 32]])

    def test_six_parties_of_200_seats_each(self):
        self.assertEqual(by_each_rule([200] * 6, [], []), [[200, 1], [800, 15], [200, 1]])
        # All others hate party 0: it doesn't stand, and each of them alone has as many against it as for it.
        self.assertEqual(by_each_rule([200] * 6, [], [0, 1, 2, 0, 0, 3, 4, 0, 0, 5]),
                         [[400, 6], [800, 30], [200, 2]])

    def test_all_others_against_a_large_one(self):
        self.assertEqual(smallest(1, [1, 2, 4], [], [2, 0, 2, 1]), [4, 4])
        self.assertEqual(smallest(1, [3, 2, 4], [], [2, 0, 2, 1]), [5, 3])


class WhichIsTold(unittest.TestCase):
    def test_fewer_seats_in_a_greater_number(self):
        self.assertEqual(by_each_rule([30, 20, 10], [], []), [[10, 4], [40, 5], [10, 4]])
        self.assertEqual(smallest(1, [20, 20, 10], [0, 2], []), [10, 4])

    def test_fewer_seats_with_more_parties(self):
        # 9 stands too, with two parties, but with 35 seats.
        self.assertEqual(smallest(1, [10, 10, 12, 25], [], []), [32, 7])
        # 3 stands too, with two parties, but with 35 seats.
        self.assertEqual(smallest(1, [25, 10, 10, 12], [], []), [32, 14])

    def test_as_few_seats_with_fewer_parties_is_not_asked(self):
        # 9, 10 and 12 have 30 seats too, and fewer parties, but 7 is the least.
        self.assertEqual(smallest(1, [10, 10, 10, 20], [], []), [30, 7])

    def test_as_few_seats_in_a_greater_number(self):
        self.assertEqual(smallest(1, [20, 10, 10, 10], [], []), [30, 3])
        self.assertEqual(smallest(1, [10, 10, 11, 20], [], []), [30, 9])
        self.assertEqual(by_each_rule([7, 5, 5, 6], [], []), [[5, 2], [12, 3], [5, 2]])

    def test_seats_of_who_likes_it_are_not_counted(self):
        # 2 has 10 seats too, and only these for it, but 1 is the least.
        self.assertEqual(smallest(0, [10, 10, 10, 50], [3, 0], []), [10, 1])
        # By rule 1 party 0 stands by its 15 seats and 65 for it, party 2 by 50 and 50.
        self.assertEqual(by_each_rule([15, 10, 50], [2, 0], []), [[10, 2], [15, 1], [10, 2]])


class Edges(unittest.TestCase):
    def test_one_party(self):
        for held in (1, 7, 200):
            self.assertEqual(by_each_rule([held], [], []), [[held, 1], [held, 1], [held, 1]])

    def test_just_half_for(self):
        self.assertEqual(by_each_rule([30, 30], [], []), [[30, 1], [60, 3], [30, 1]])
        self.assertEqual(by_each_rule([31, 30], [], []), [[30, 2], [31, 1], [30, 2]])

    def test_just_half_for_and_just_half_against(self):
        self.assertEqual(by_each_rule([30, 20, 10], [], [0, 1, 0, 2]), [[-33], [-33], [10, 4]])

    def test_one_seat_beside_just_half_against(self):
        self.assertEqual(by_each_rule([30, 20, 11], [], [0, 1, 0, 2]), [[31, 6], [31, 6], [11, 4]])

    def test_who_likes_one_and_hates_another(self):
        self.assertEqual(by_each_rule([10, 10, 20, 30], [2, 0], []), [[10, 1], [20, 3], [10, 1]])
        self.assertEqual(by_each_rule([10, 10, 20, 30], [2, 0], [2, 1]), [[10, 1], [40, 9], [10, 1]])

    def test_a_hate_told_the_other_way_about(self):
        for hates in ([0, 1], [1, 0], [0, 1, 1, 0]):
            self.assertEqual(by_each_rule([10, 30], [], hates), [[30, 2], [30, 2], [30, 2]])
            self.assertEqual(by_each_rule([10, 20, 30], [], hates), [[20, 2], [40, 5], [10, 1]])

    def test_as_many_against_as_for(self):
        self.assertEqual(by_each_rule([10, 10], [], [0, 1]), [[-33], [-33], [10, 1]])
        self.assertEqual(by_each_rule([10, 10, 30], [], [0, 1]), [[30, 4], [30, 4], [10, 1]])

    def test_a_cabinet_that_stands_without_a_majority(self):
        self.assertEqual(by_each_rule([1, 200], [], []), [[1, 1], [200, 2], [1, 1]])
        self.assertEqual(by_each_rule([20, 10, 100], [], [0, 1]), [[20, 1], [100, 4], [10, 2]])
        self.assertEqual(by_each_rule(*NO_MAJORITY), [[10, 4], [-33], [10, 1]])

    def test_a_like_of_one_who_is_not_of_it(self):
        self.assertEqual(smallest(1, [10, 20, 30], [], []), [40, 5])
        self.assertEqual(smallest(1, [10, 20, 30], [2, 0], []), [10, 1])
        self.assertEqual(smallest(1, [10, 20, 30], [2, 1], []), [20, 2])


if __name__ == "__main__":
    unittest.main()
