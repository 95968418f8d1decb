"""Promise 3: part, in ordinary houses and at the edges that the document names."""

import unittest

from cabinets.govern import part, standing
from tests.houses import (ALL_HATE, ALONE_OR_THREE, LAST_OF_FORTY, NO_MAJORITY, SIX, SIX_BY_FORTY, TOP, houses,
                          parties_of, told_part)


def of_each_party(r, seats, likes, hates):
    return [part(r, i, seats, likes, hates) for i in range(len(seats))]


class Parts(unittest.TestCase):
    def parts(self, house, *by_rule):
        """By each rule: how many stand, and of how many of these each party is."""
        self.assertEqual(len(by_rule), 3)
        for r, (how_many, of_each) in enumerate(by_rule):
            with self.subTest(r=r, house=house):
                self.assertEqual(of_each_party(r, *house), [[of_one, how_many] for of_one in of_each])


class OrdinaryHouses(Parts):
    def test_no_likes_and_no_hates(self):
        self.parts(([10, 20, 40], [], []), (7, [4, 4, 4]), (4, [2, 2, 4]), (7, [4, 4, 4]))

    def test_one_hate(self):
        self.parts(([10, 20, 30], [], [0, 1]), (4, [1, 2, 3]), (2, [1, 1, 2]), (5, [2, 2, 3]))

    def test_a_like_and_a_hate(self):
        self.parts(([40, 35, 25], [2, 1], [0, 1]), (5, [2, 2, 3]), (3, [1, 2, 2]), (5, [2, 2, 3]))

    def test_a_like_that_ends_when_another_comes_in(self):
        self.parts(ALONE_OR_THREE, (4, [3, 1, 1, 2]), (3, [3, 1, 1, 1]), (9, [5, 4, 4, 2]))

    def test_six_parties(self):
        self.parts(SIX, (30, [12, 18, 8, 17, 11, 9]), (13, [8, 11, 5, 7, 6, 3]), (35, [12, 18, 12, 18, 12, 12]))

    def test_six_parties_of_200_seats_each(self):
        self.parts(([200] * 6, [], []), (63, [32] * 6), (22, [16] * 6), (63, [32] * 6))

    def test_six_parties_by_forty_numbers_each(self):
        for r in range(3):
            self.assertEqual(of_each_party(r, *SIX_BY_FORTY), of_each_party(r, *SIX))

    def test_the_last_of_forty_numbers_are_heeded(self):
        seats, likes, hates = LAST_OF_FORTY
        self.assertEqual([part(1, i, seats, likes, hates) for i in (0, 5)], [[8, 19], [16, 19]])
        self.assertEqual(part(1, 5, seats, likes[:-2], hates), [14, 17])
        self.assertEqual(part(1, 0, seats, likes, hates[:-2]), [24, 37])

    def test_none_stands(self):
        self.parts(ALL_HATE, (0, [0, 0, 0]), (0, [0, 0, 0]), (0, [0, 0, 0]))

    def test_a_party_of_none_that_stands_and_one_of_all(self):
        self.parts(([10, 30], [], [0, 1]), (1, [0, 1]), (1, [0, 1]), (1, [0, 1]))
        self.parts(([10, 20, 200], [], [0, 1, 0, 2]), (3, [0, 2, 2]), (2, [0, 1, 2]), (3, [0, 2, 2]))


class Edges(Parts):
    def test_nobody(self):
        for r in range(3):
            for i in (0, 1, 6, TOP):
                self.assertEqual(part(r, i, [], [], []), [-2])

    def test_one_party(self):
        for held in (1, 7, 200):
            self.parts(([held], [], []), (1, [1]), (1, [1]), (1, [1]))

    def test_just_half_for(self):
        self.parts(([30, 30], [], []), (3, [2, 2]), (1, [1, 1]), (3, [2, 2]))
        self.parts(([31, 30], [], []), (3, [2, 2]), (2, [2, 1]), (3, [2, 2]))

    def test_just_half_for_and_just_half_against(self):
        self.parts(([30, 20, 10], [], [0, 1, 0, 2]), (0, [0, 0, 0]), (0, [0, 0, 0]), (4, [1, 2, 2]))

    def test_one_seat_beside_just_half_against(self):
        self.parts(([30, 20, 11], [], [0, 1, 0, 2]), (1, [0, 1, 1]), (1, [0, 1, 1]), (3, [0, 2, 2]))

    def test_who_likes_one_and_hates_another(self):
        self.parts(([10, 10, 30], [2, 0], []), (7, [4, 4, 4]), (6, [4, 3, 4]), (7, [4, 4, 4]))
        self.parts(([10, 10, 30], [2, 0], [2, 1]), (3, [2, 0, 2]), (3, [2, 0, 2]), (3, [2, 0, 2]))

    def test_a_hate_told_the_other_way_about(self):
        for hates in ([0, 1], [1, 0], [0, 1, 1, 0]):
            self.parts(([10, 20, 30], [], hates), (4, [1, 2, 3]), (2, [1, 1, 2]), (5, [2, 2, 3]))

    def test_a_set_that_is_empty_is_not_counted(self):
        # By rule 2 nobody is against it, and yet only 1, 2 and 3 stand.
        self.parts(([10, 10], [], []), (3, [2, 2]), (1, [1, 1]), (3, [2, 2]))

    def test_as_many_against_as_for(self):
        self.parts(([10, 10], [], [0, 1]), (0, [0, 0]), (0, [0, 0]), (2, [1, 1]))
        self.parts(([10, 10, 30], [], [0, 1]), (3, [1, 1, 3]), (3, [1, 1, 3]), (5, [2, 2, 3]))

    def test_a_cabinet_that_stands_without_a_majority(self):
        self.parts(([1, 200], [], []), (3, [2, 2]), (2, [1, 2]), (3, [2, 2]))
        self.parts(([20, 10, 100], [], [0, 1]), (4, [2, 1, 3]), (3, [1, 1, 3]), (5, [2, 2, 3]))
        self.parts(NO_MAJORITY, (1, [0, 0, 1, 0]), (0, [0, 0, 0, 0]), (8, [3, 3, 3, 3]))

    def test_a_like_of_one_who_is_not_of_it(self):
        everybody = (7, [4, 4, 4])
        self.parts(([10, 20, 30], [], []), everybody, (3, [2, 2, 3]), everybody)
        self.parts(([10, 20, 30], [2, 0], []), everybody, (5, [4, 3, 3]), everybody)
        self.parts(([10, 20, 30], [2, 1], []), everybody, (5, [3, 4, 3]), everybody)


class WhatIsTold(unittest.TestCase):
    def test_among_the_sets_that_standing_tells(self):
        met = set()
        for house in houses(350):
            for r in range(3):
                how_many, *those = standing(r, *house)
                for i, answer in enumerate(of_each_party(r, *house)):
                    with self.subTest(i=i, r=r, house=house):
                        of_party = [s for s in those if i in parties_of(s)]
                        self.assertEqual(answer, [len(of_party), how_many])
                    met.add((answer[0] > 0, answer[0] < how_many))
        # Parties of none, of some and of all that stand, and houses in which none stands.
        self.assertEqual(met, {(False, True), (True, True), (True, False), (False, False)})

    def test_as_the_words_told_once_more(self):
        for house in houses(350, start=2):
            for r in range(3):
                for i in range(len(house[0])):
                    with self.subTest(i=i, r=r, house=house):
                        self.assertEqual(part(r, i, *house), told_part(r, i, *house))


if __name__ == "__main__":
    unittest.main()
