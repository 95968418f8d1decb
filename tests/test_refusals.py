"""Promise 1, as far as it bears on vote and stands: which refusal is answered."""

import unittest

from cabinets.govern import stands, vote
from tests.houses import TOP

SEATS = [10, 20, 30]


class Refusals(unittest.TestCase):
    def by_both(self, answer, s, seats, likes, hates):
        """vote, and stands by each rule, answer this refusal alone."""
        with self.subTest(s=s, seats=seats, likes=likes, hates=hates):
            self.assertEqual(vote(s, seats, likes, hates), answer)
            for r in range(3):
                self.assertEqual(stands(r, s, seats, likes, hates), answer)

    def not_refused(self, s, seats, likes, hates):
        with self.subTest(s=s, seats=seats, likes=likes, hates=hates):
            self.assertEqual(len(vote(s, seats, likes, hates)), 3)
            for r in range(3):
                self.assertIn(stands(r, s, seats, likes, hates), ([0], [1]))


class HouseNotAsTold(Refusals):
    def test_more_than_six_parties(self):
        self.not_refused(1, [1] * 6, [], [])
        for parties in (7, 8, 9, 10):
            self.by_both([-22], 1, [1] * parties, [], [])

    def test_a_party_with_no_seats(self):
        self.not_refused(1, [1, 1, 1], [], [])
        for seats in ([0], [0, 20, 30], [10, 0, 30], [10, 20, 0]):
            self.by_both([-22], 1, seats, [], [])

    def test_a_party_with_more_than_200_seats(self):
        self.not_refused(1, [200, 200, 200], [], [])
        for seats in ([201], [201, 20, 30], [10, 201, 30], [10, 20, 201], [10, 20, TOP]):
            self.by_both([-22], 1, seats, [], [])

    def test_an_odd_number_of_numbers(self):
        for told in ([0], [0, 1, 2], [0, 1] * 19 + [0]):
            self.by_both([-22], 1, SEATS, told, [])
            self.by_both([-22], 1, SEATS, [], told)

    def test_more_than_forty_numbers(self):
        self.not_refused(1, SEATS, [0, 1] * 20, [])
        self.not_refused(1, SEATS, [], [0, 1] * 20)
        self.not_refused(1, SEATS, [0, 1] * 20, [1, 2] * 20)
        for told in ([0, 1] * 20 + [0], [0, 1] * 21, [0, 1] * 22):
            self.by_both([-22], 1, SEATS, told, [])
            self.by_both([-22], 1, SEATS, [], told)

    def test_just_forty_numbers_are_all_heeded(self):
        self.assertEqual(vote(1, SEATS, [0, 1] * 19 + [2, 0], []), [40, 0, 20])
        self.assertEqual(vote(1, SEATS, [], [1, 2] * 19 + [2, 0]), [10, 30, 20])
        self.assertEqual(stands(0, 5, SEATS, [], [1, 2] * 19 + [2, 0]), [0])

    def test_one_that_likes_or_hates_itself(self):
        for told in ([0, 0], [2, 2], [0, 1, 1, 1], [1, 1, 0, 1]):
            self.by_both([-22], 1, SEATS, told, [])
            self.by_both([-22], 1, SEATS, [], told)

    def test_one_that_there_is_not_at_the_first_place(self):
        for told in ([3, 0], [TOP, 0], [0, 1, 3, 1], [3, 1, 0, 1]):
            self.by_both([-22], 1, SEATS, told, [])
            self.by_both([-22], 1, SEATS, [], told)

    def test_one_that_there_is_not_at_the_second_place(self):
        self.not_refused(1, SEATS, [0, 2, 2, 0], [1, 2])
        for told in ([0, 3], [0, TOP], [0, 1, 1, 3], [1, 3, 0, 1]):
            self.by_both([-22], 1, SEATS, told, [])
            self.by_both([-22], 1, SEATS, [], told)

    def test_a_like_or_hate_where_there_is_nobody_or_one(self):
        for told in ([0, 1], [1, 0], [0, 0]):
            for seats in ([], [5]):
                self.by_both([-22], 0, seats, told, [])
                self.by_both([-22], 0, seats, [], told)

    def test_a_set_that_is_empty_or_no_cabinet_is_no_excuse(self):
        self.by_both([-22], 0, [0], [], [])
        self.by_both([-22], 3, SEATS, [0], [0, 1])
        self.by_both([-22], 3, SEATS, [], [0, 1, 2, 2])


class RuleNotAsTold(unittest.TestCase):
    def test_a_rule_above_2(self):
        for r in (3, 4, 22, TOP):
            for s in (0, 1, 7):
                self.assertEqual(stands(r, s, SEATS, [], []), [-22])
            self.assertEqual(stands(r, 0, [], [], []), [-22])


class NoSuchParty(Refusals):
    def test_somebody_of_the_set_is_none(self):
        for s in (8, 9, 15, 16, 2 ** 31, 2 ** 31 + 1, TOP - 7, TOP):
            self.by_both([-2], s, SEATS, [0, 1], [1, 2])

    def test_the_last_set_that_there_is(self):
        for parties in range(7):
            self.not_refused(2 ** parties - 1, [1] * parties, [], [])
            self.by_both([-2], 2 ** parties, [1] * parties, [], [])
            self.by_both([-2], TOP, [1] * parties, [], [])


class TwoAtOnce(Refusals):
    def test_a_house_not_as_told_and_no_such_party(self):
        for s in (8, 1024, TOP):
            self.by_both([-22], s, [10, 0, 30], [], [])
            self.by_both([-22], s, [10, 201, 30], [], [])
            for told in ([0], [0, 1] * 21, [1, 1], [3, 0], [0, 3]):
                self.by_both([-22], s, SEATS, told, [])
                self.by_both([-22], s, SEATS, [], told)
        self.by_both([-22], 1024, [1] * 7, [], [])

    def test_a_rule_not_as_told_and_no_such_party(self):
        for r in (3, TOP):
            for s in (8, TOP):
                self.assertEqual(stands(r, s, SEATS, [], []), [-22])

    def test_all_at_once(self):
        self.assertEqual(vote(TOP, [0] * 10, [TOP] * 43, [0] * 44), [-22])
        self.assertEqual(stands(TOP, TOP, [0] * 10, [TOP] * 43, [0] * 44), [-22])


if __name__ == "__main__":
    unittest.main()
